package fit_test

import (
	"testing"

	"acme/api"
	"acme/fit"
)

// sizes returns the size of a screw and of a nut by a form and a depth that are valid.
func sizes(t *testing.T, f api.ThreadForm, screw, nut api.FitThread, depth api.Span) (screwSize, nutSize int) {
	t.Helper()
	screwSize, e := fit.Screw(f, screw, depth)
	if e != api.OK {
		t.Fatal(f, screw, depth, e)
	}
	nutSize, e = fit.Nut(f, nut, depth)
	if e != api.OK {
		t.Fatal(f, nut, depth, e)
	}
	return screwSize, nutSize
}

// goes reports whether a screw goes into a nut, by Goers.
func goes(t *testing.T, screw, nut api.FitThread, depth api.Span) bool {
	t.Helper()
	pairs, e := fit.Goers([]api.FitThread{screw}, []api.FitThread{nut}, depth)
	if e != api.OK {
		t.Fatal(screw, nut, depth, e)
	}
	return len(pairs) == 1
}

// TestGauges is for P3.8.
func TestGauges(t *testing.T) {
	r := dice()
	passed, notPassed := 0, 0
	for range 5000 {
		f := forms()[r.IntN(len(forms()))]
		turns, depth := 1+r.IntN(4), depths()[r.IntN(len(depths()))]
		screw, nut := anyThread(r, f, turns, 9), anyThread(r, f, turns, 9)
		for i := range screw.Turns {
			screw.Turns[i].Left = min(screw.Turns[i].Left+r.IntN(12), screw.Turns[i].Right)
		}
		screwSize, nutSize := sizes(t, f, screw, nut, depth)
		if screwSize > nutSize {
			notPassed++
			continue
		}
		passed++
		if !goes(t, screw, nut, depth) {
			t.Error(f, screw, nut, depth, screwSize, nutSize)
		}
	}
	if passed < 50 || notPassed < 50 {
		t.Error("gauges have not both answers", passed, notPassed)
	}
	// The document's example 1: the screw has the size 9, the nut 17.
	if screw := lean(-2500, 2500, 7510, 12510); !goes(t, screw, ofExamples(), usual()) {
		t.Error("the screw of the example does not go into its nut")
	} else if screwSize, nutSize := sizes(t, metric(), screw, ofExamples(), usual()); screwSize != 9 || nutSize != 17 {
		t.Error(screwSize, nutSize)
	}
	// It need not be so the other way round.
	if screw := turned(0, 0, -2500, 2500); !goes(t, screw, screw, usual()) {
		t.Error("a screw that is greater than its nut by all gauges")
	} else if screwSize, nutSize := sizes(t, metric(), screw, screw, usual()); screwSize <= nutSize {
		t.Error(screwSize, nutSize)
	}
}

// TestPairThatNeedNot is for P3.9.
func TestPairThatNeedNot(t *testing.T) {
	found := map[bool]int{}
	for _, f := range forms() {
		for ring := -40; ring <= 40; ring += 5 {
			for plug := -41; plug <= 41; plug++ {
				for _, depth := range depths()[:7] {
					screw, nut, pairGoes, e := fit.Show(f, ring, plug, 3, depth)
					if e != api.OK {
						continue
					}
					far := (ring-plug)*(f.Left+f.Right) > 4000
					if far && pairGoes || pairGoes != goes(t, screw, nut, depth) {
						t.Error(f, ring, plug, depth, screw, nut, pairGoes)
					}
					if screwSize, nutSize := sizes(t, f, screw, nut, depth); screwSize > ring || nutSize < plug {
						t.Error(f, ring, plug, depth, screwSize, nutSize)
					}
					found[far]++
				}
			}
		}
	}
	if found[true] < 1000 || found[false] < 1000 {
		t.Error("the search has not both answers", found)
	}
}

// TestMoved is for P3.11: moved screws and nuts.
func TestMoved(t *testing.T) {
	r := dice()
	for range 1000 {
		f := forms()[r.IntN(len(forms()))]
		screw, nut := anyThread(r, f, 1+r.IntN(4), 9), anyThread(r, f, 1+r.IntN(4), 15)
		depth := depths()[r.IntN(len(depths()))]
		screwBy, nutBy := near(r, 0, 5000000), near(r, 0, 5000000)
		otherScrew, otherNut := moved(screw, screwBy), moved(nut, nutBy)
		a, b := sizes(t, f, screw, nut, depth)
		c, d := sizes(t, f, otherScrew, otherNut, depth)
		deep, e := fit.Deep(screw, nut, depth)
		otherDeep, otherE := fit.Deep(otherScrew, otherNut, depth)
		if a != c || b != d || deep != otherDeep || e != api.OK || otherE != api.OK {
			t.Error(f, screw, nut, depth, screwBy, nutBy, a, b, c, d, deep, otherDeep)
		}
		many := 1 + r.IntN(min(len(screw.Turns), len(nut.Turns)))
		once, e := fit.Shift(screw, nut, 0, 0, many, depth)
		want := span(once.Low+1000*(nutBy-screwBy), once.High+1000*(nutBy-screwBy))
		if e != api.OK {
			want = api.Span{}
		}
		if got, otherE := fit.Shift(otherScrew, otherNut, 0, 0, many, depth); got != want || otherE != e {
			t.Error(screw, nut, depth, screwBy, nutBy, once, got, e, otherE)
		}
	}
}

// TestLess is for P3.11: less depth, and fewer turns.
func TestLess(t *testing.T) {
	r := dice()
	for range 3000 {
		f := forms()[r.IntN(len(forms()))]
		turns := 1 + r.IntN(6)
		thread := anyThread(r, f, turns, 9)
		depth := depths()[r.IntN(len(depths()))]
		from := r.IntN(turns)
		fewer := part(thread, from, from+1+r.IntN(turns-from))
		low := depth.Low + r.IntN(depth.High-depth.Low+1)
		less := span(low, low+r.IntN(depth.High-low+1))
		screwSize, nutSize := sizes(t, f, thread, thread, depth)
		for _, c := range []struct {
			t     api.FitThread
			depth api.Span
		}{{thread, less}, {fewer, depth}, {fewer, less}} {
			if a, b := sizes(t, f, c.t, c.t, c.depth); a > screwSize || b < nutSize {
				t.Error(f, thread, depth, screwSize, nutSize, c, a, b)
			}
		}
	}
}

// TestStepByStep is for P3.12: a nut with the first grooves of another one, and a screw that is smaller, flank by flank.
func TestStepByStep(t *testing.T) {
	r := dice()
	gained := 0
	for range 2000 {
		f := forms()[r.IntN(len(forms()))]
		depth := depths()[r.IntN(len(depths()))]
		screw, nut := anyThread(r, f, 1+r.IntN(5), 6), anyThread(r, f, 1+r.IntN(5), 12)
		deep, e := fit.Deep(screw, nut, depth)
		if e != api.OK {
			t.Fatal(screw, nut, depth, e)
		}
		for grooves := range nut.Turns {
			if got, e := fit.Deep(screw, part(nut, 0, grooves+1), depth); got != min(deep, grooves+1) || e != api.OK {
				t.Error(screw, nut, depth, grooves+1, got, e, deep)
			}
		}
		smaller := copyOf(screw)
		for i, turn := range smaller.Turns {
			left := turn.Left + r.IntN(min(20, turn.Right-turn.Left+1))
			smaller.Turns[i] = api.FitTurn{Left: left, Right: turn.Right - r.IntN(min(20, turn.Right-left+1))}
		}
		got, e := fit.Deep(smaller, nut, depth)
		if got < deep || e != api.OK {
			t.Error(screw, smaller, nut, depth, got, e, deep)
		}
		gained += got - deep
	}
	if gained == 0 {
		t.Error("no smaller screw goes farther")
	}
}
