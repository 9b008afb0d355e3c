package fit_test

import (
	"math"
	"testing"

	"acme/api"
	"acme/fit"
)

// ofExamples returns the nut of the chapter's examples.
func ofExamples() api.FitThread { return lean(-2510, 2510, 7490, 12510) }

// TestShift is for P3.2: the chapter's examples and others that are worked out by hand.
func TestShift(t *testing.T) {
	for i, c := range []struct {
		screw, nut          api.FitThread
		tooth, groove, many int
		depth, want         api.Span
		e                   api.Errno
	}{
		{lean(-2500, 2500, 7500, 12500), ofExamples(), 0, 0, 2, usual(), span(-10000, 10000), api.OK},
		{lean(-2500, 2500, 7515, 12515), ofExamples(), 0, 0, 2, usual(), span(-10000, -5000), api.OK},
		{lean(-2500, 2500, 7525, 12525), ofExamples(), 0, 0, 2, usual(), api.Span{}, api.ErrState},
		{lean(-2500, 2500, 7520, 12520), ofExamples(), 0, 0, 2, usual(), span(-10000, -10000), api.OK},
		{lean(-2500, 2500, 7521, 12521), ofExamples(), 0, 0, 2, usual(), api.Span{}, api.ErrState},
		// One tooth alone, in each groove.
		{lean(-2500, 2500, 7525, 12525), ofExamples(), 1, 1, 1, usual(), span(-35000, -15000), api.OK},
		{lean(-2500, 2500, 7525, 12525), ofExamples(), 0, 1, 1, usual(), span(9990000, 10010000), api.OK},
		{lean(-2500, 2500, 7525, 12525), ofExamples(), 1, 0, 1, usual(), span(-10035000, -10015000), api.OK},
		// Leans: each flank at the end of the depth where it is in the way.
		{turned(577, 577, 0, 100), turned(587, 577, -50, 150), 0, 0, 1, usual(), span(-20000, 50000), api.OK},
		{turned(577, 577, 0, 100), turned(577, 587, -50, 150), 0, 0, 1, usual(), span(-50000, 20000), api.OK},
		{turned(587, 577, 0, 100), turned(577, 577, -50, 150), 0, 0, 1, usual(), span(-20000, 50000), api.OK},
		{turned(577, 577, 0, 100), turned(587, 597, -50, 150), 0, 0, 1, span(-3000, 0), span(-50000, 50000), api.OK},
		{turned(577, 577, 0, 100), turned(587, 597, -50, 150), 0, 0, 1, span(-3000, -1000), span(-60000, 70000), api.OK},
		{turned(577, 577, 0, 100), turned(587, 597, -50, 150), 0, 0, 1, span(1000, 1001), span(-39990, 29980), api.OK},
		{turned(577, 577, 0, 100), turned(578, 577, 0, 100), 0, 0, 1, span(0, 1), api.Span{}, api.ErrState},
		{turned(577, 577, 0, 100), turned(578, 577, 0, 100), 0, 0, 1, span(-1, 0), span(0, 0), api.OK},
		// As far as limits go.
		{turned(3000, 3000, -10000000, -10000000), turned(0, 0, 10000000, 10000000), 0, 0, 1, span(200000, 200000), span(19400000000, 20600000000), api.OK},
		{turned(0, 0, 10000000, 10000000), turned(3000, 3000, -10000000, -10000000), 0, 0, 1, span(-200000, -200000), span(-20600000000, -19400000000), api.OK},
		{row(60, -5, 7), row(60, -6, 7), 0, 0, 60, usual(), span(-1000, -1000), api.OK}, {row(60, -5, 7), row(60, -6, 7), 59, 0, 1, usual(), span(-827000, -827000), api.OK},
	} {
		if got, e := fit.Shift(c.screw, c.nut, c.tooth, c.groove, c.many, c.depth); got != c.want || e != c.e {
			t.Error(i, got, e)
		}
	}
}

// TestShiftSearch is for P3.2: what lies in what, height by height.
func TestShiftSearch(t *testing.T) {
	r := dice()
	found := map[api.Errno]int{}
	for range 300 {
		f := forms()[r.IntN(len(forms()))]
		screw, nut := anyThread(r, f, 1+r.IntN(5), 20), anyThread(r, f, 1+r.IntN(5), 20)
		for _, depth := range depths()[:6] {
			for tooth := range screw.Turns {
				for groove := range nut.Turns {
					many := 1 + r.IntN(min(len(screw.Turns)-tooth, len(nut.Turns)-groove))
					least, greatest := window(asIs(screw), asIs(nut), tooth, groove, many, depth)
					want, wantE := span(least, greatest), api.OK
					if least > greatest {
						want, wantE = api.Span{}, api.ErrState
					}
					got, e := fit.Shift(screw, nut, tooth, groove, many, depth)
					if got != want || e != wantE {
						t.Error(screw, nut, tooth, groove, many, depth, got, e, want)
					}
					found[e]++
				}
			}
		}
	}
	if found[api.OK] < 100 || found[api.ErrState] < 100 {
		t.Error("the search has not both answers", found)
	}
}

// TestShiftNone is for P3.2: teeth and grooves that are not there come before shifts that are not.
func TestShiftNone(t *testing.T) {
	// No tooth goes into a groove.
	screw, nut := lean(0, 9, 10, 19, 20, 29), lean(0, 5, 10, 15)
	for tooth := -3; tooth < 6; tooth++ {
		for groove := -3; groove < 6; groove++ {
			for many := -3; many < 6; many++ {
				want := api.ErrState
				if many < 1 || tooth < 0 || tooth+many > 3 || groove < 0 || groove+many > 2 {
					want = api.ErrNone
				}
				if got, e := fit.Shift(screw, nut, tooth, groove, many, usual()); got != (api.Span{}) || e != want {
					t.Error(tooth, groove, many, got, e)
				}
			}
		}
	}
	for _, n := range extremes() {
		for _, m := range extremes() {
			for _, c := range [][3]int{{n, m, 1}, {n, 0, m}, {0, n, m}, {n, m, n}, {n, m, m}, {n, 0, 1}, {0, n, 1}, {0, 0, n}} {
				there := c[2] == 1 && (c[0] == 0 || c[0] == 1) && (c[1] == 0 || c[1] == 1)
				if got, e := fit.Shift(screw, nut, c[0], c[1], c[2], usual()); got != (api.Span{}) || !there && e != api.ErrNone {
					t.Error(c, got, e)
				}
			}
		}
	}
	if got, e := fit.Shift(nut, screw, 0, 0, math.MinInt, usual()); got != (api.Span{}) || e != api.ErrNone {
		t.Error(got, e)
	}
}

// TestDeep is for P3.3: the chapter's examples and others that are worked out by hand.
func TestDeep(t *testing.T) {
	for i, c := range []struct {
		screw, nut api.FitThread
		want       int
	}{
		{lean(-2500, 2500, 7500, 12500), ofExamples(), 2}, {lean(-2500, 2500, 7515, 12515), ofExamples(), 2}, {lean(-2500, 2500, 7525, 12525), ofExamples(), 1},
		// The last tooth goes first, and stops at a groove that is too narrow for it.
		{lean(0, 10, 100, 130), lean(0, 20, 100, 200), 0}, {lean(0, 10, 100, 130), lean(0, 30, 100, 120), 1}, {lean(0, 40, 100, 110), lean(0, 30, 100, 120), 1}, {lean(0, 40, 100, 110), lean(0, 40, 60, 120), 2},
		// A screw with fewer teeth goes through, until one of its teeth has no room.
		{lean(0, 10), lean(0, 10, 20, 30, 40, 50), 3}, {lean(0, 10), lean(0, 10, 20, 29, 40, 50), 1}, {lean(0, 10, 100, 110), lean(0, 10, 100, 110, 200, 210), 3}, {lean(0, 10, 100, 110), lean(0, 10, 100, 110, 200, 210, 301, 311), 3}, {lean(0, 10, 100, 110), lean(0, 10, 100, 110, 200, 209, 300, 310), 2},
		// A screw with more teeth: those that stay outside do not count.
		{lean(0, 500, 900, 910), lean(0, 10), 1}, {lean(0, 9, 900, 911), lean(0, 10), 0}, {lean(0, 500, 700, 710, 900, 910), lean(0, 10, 200, 210), 2}, {lean(0, 500, 700, 711, 900, 910), lean(0, 10, 200, 210), 1},
		{lean(0, 50, 60, 70, 80, 90), lean(0, 10, 20, 30, 40, 50), 2},
		// What lies farther on does not count, once there is a step without a shift.
		{lean(0, 10), lean(0, 10, 20, 25, 30, 90, 100, 200), 1},
	} {
		if got, e := fit.Deep(c.screw, c.nut, usual()); got != c.want || e != api.OK {
			t.Error(i, got, e)
		}
	}
	for _, teeth := range []int{1, 2, 59, 60} {
		for _, grooves := range []int{1, 2, 59, 60} {
			if got, e := fit.Deep(row(teeth, 77, 50), row(grooves, -5, 50), usual()); got != grooves || e != api.OK {
				t.Error(teeth, grooves, got, e)
			}
		}
	}
}

// TestDeepSearch is for P3.3: step by step, what Shift says of the teeth that are in grooves.
func TestDeepSearch(t *testing.T) {
	r := dice()
	found := map[int]int{}
	for range 2000 {
		f := forms()[r.IntN(len(forms()))]
		screw, nut := anyThread(r, f, 1+r.IntN(6), 8), anyThread(r, f, 1+r.IntN(6), 8)
		for i := range nut.Turns {
			nut.Turns[i].Left -= 8
			nut.Turns[i].Right += 8
		}
		depth := depths()[r.IntN(6)]
		want := 0
		for want < len(nut.Turns) && stepGoes(screw, nut, want+1, depth) {
			want++
		}
		if fit.Check(nut) != api.OK {
			continue
		}
		if got, e := fit.Deep(screw, nut, depth); got != want || e != api.OK {
			t.Error(screw, nut, depth, got, e, want)
		}
		found[want]++
	}
	for want := range 6 {
		if found[want] < 10 {
			t.Error("the search has not all answers", found)
		}
	}
}

// stepGoes reports whether there is a shift after a number of steps: each tooth is looked for in the nut.
func stepGoes(screw, nut api.FitThread, steps int, depth api.Span) bool {
	least, greatest := math.MinInt, math.MaxInt
	for tooth := range screw.Turns {
		groove := steps - len(screw.Turns) + tooth
		if groove >= 0 {
			low, high := window(asIs(screw), asIs(nut), tooth, groove, 1, depth)
			least, greatest = max(least, low), min(greatest, high)
		}
	}
	return least <= greatest
}
