package wires_test

import (
	"math/rand/v2"
	"slices"
	"testing"

	"acme/api"
	"acme/exact"
	"acme/wires"
)

// anyTrueJob returns a job all of whose readings are true, and the truths.
func anyTrueJob(r *rand.Rand, wide bool) (job, []api.WiresTruth) {
	rules, sets := anyRules(r), anySets(r, 1+r.IntN(api.MaxWiresReadings))
	if wide {
		rules, sets = wideRules(r), wideSets(r, len(sets))
	}
	truths := anyTruth(r, rules, sets)
	return job{rules, sets, readAll(rules, truths)}, truths
}

func lies(size int, l []api.Span) bool {
	return slices.ContainsFunc(l, func(s api.Span) bool { return s.Low <= size && size <= s.High })
}

// TestTrue is for P5.9.
func TestTrue(t *testing.T) {
	r := dice()
	for i := range 1000 {
		j, truths := anyTrueJob(r, i%2 == 0)
		for number, truth := range truths {
			if got, e := wires.Shows(j.rules, j.sets[number], truth); got != j.readings[number].Shown || e != api.OK {
				t.Fatal(j, truth, got, e)
			}
		}
		if got, e := wires.Sizes(j.rules, j.sets, j.readings); !lies(truths[0].Size, got) || e != api.OK {
			t.Error(j, truths, got, e)
		}
	}
}

// checkEnd reports truths of one end in which is not shown what was shown, or that differ in what they share.
func checkEnd(t *testing.T, j job, size int, truths []api.WiresTruth) {
	t.Helper()
	if len(truths) != len(j.readings) {
		t.Fatal(j, truths)
	}
	for i, truth := range truths {
		got, e := wires.Shows(j.rules, j.sets[j.readings[i].Set], truth)
		if got != j.readings[i].Shown || e != api.OK {
			t.Error(j, truth, got, e)
		}
		if truth.Size != size || truth.Angle != truths[0].Angle || truth.Pitch != truths[0].Pitch {
			t.Error(j, truths)
		}
	}
}

// TestEndsReached is for P5.10: Shows itself says so, of few truths and of many.
func TestEndsReached(t *testing.T) {
	r := dice()
	for i := range 500 {
		j, _ := anyTrueJob(r, i%2 == 0)
		for first := range j.readings {
			part := copyOf(j)
			part.readings = part.readings[first:]
			sizes, e := wires.Sizes(part.rules, part.sets, part.readings)
			low, high, f := wires.Ends(part.rules, part.sets, part.readings)
			if e != api.OK || f != api.OK {
				t.Fatal(part, e, f)
			}
			checkEnd(t, part, sizes[0].Low, low)
			checkEnd(t, part, sizes[len(sizes)-1].High, high)
		}
	}
}

// TestWhoErrs is for P5.11: some readings are wrong by any number.
func TestWhoErrs(t *testing.T) {
	r := dice()
	found := map[int]int{}
	for i := range 600 {
		j, _ := anyTrueJob(r, i%2 == 0)
		if got, e := wires.Wrong(j.rules, j.sets, j.readings); !equalLists(got, [][]int{nil}) || e != api.OK {
			t.Error(j, got, e)
		}
		count := r.IntN(len(j.readings))
		for _, number := range r.Perm(len(j.readings))[:count] {
			j.readings[number].Shown += within(r, span(-3000, 3000))
		}
		got, e := wires.Wrong(j.rules, j.sets, j.readings)
		if len(got) == 0 || e != api.OK {
			t.Fatal(j, got, e)
		}
		for _, out := range got {
			if len(out) > count || len(out) != len(got[0]) {
				t.Error(j, got)
			}
		}
		found[len(got[0])]++
	}
	if found[0] < 20 || found[1] < 20 || found[2] < 20 {
		t.Error("few readings are wrong", found)
	}
}

// bounds returns the sizes with which readings agree, if there are some.
func bounds(t *testing.T, j job) []api.Span {
	t.Helper()
	l, e := wires.Sizes(j.rules, j.sets, j.readings)
	if e != api.OK && e != api.ErrState {
		t.Fatal(j, e)
	}
	return l
}

// allWithin reports whether each span of a list lies within one of another list.
func allWithin(l, others []api.Span) bool {
	lies := func(s api.Span) bool {
		return slices.ContainsFunc(others, func(o api.Span) bool { return o.Low <= s.Low && s.High <= o.High })
	}
	return !slices.ContainsFunc(l, func(s api.Span) bool { return !lies(s) })
}

// better returns a job of which more is known: its spans are narrower, its angles fewer, or its readings more.
func better(r *rand.Rand, j job, how int) job {
	j = copyOf(j)
	switch how {
	case 0:
		j.rules.Pitch, j.rules.Press, j.rules.Error = part(r, j.rules.Pitch), part(r, j.rules.Press), part(r, j.rules.Error)
	case 1:
		for number := range j.sets {
			for i, wire := range j.sets[number].Wires {
				j.sets[number].Wires[i] = part(r, wire)
			}
		}
	case 2:
		if at := r.IntN(len(j.rules.Angles)); len(j.rules.Angles) > 1 {
			j.rules.Angles = slices.Delete(j.rules.Angles, at, at+1)
		}
	case 3:
		j.sets = append(j.sets, anySets(r, 1)...)
		shown := readAll(j.rules, anyTruth(r, j.rules, j.sets))[len(j.sets)-1].Shown
		j.readings = append(j.readings, api.WiresReading{Set: len(j.sets) - 1, Shown: shown})
	case 4:
		j.sets = append(j.sets, j.sets[0])
		shown := j.readings[0].Shown + within(r, span(-5, 5))
		j.readings = append(j.readings, api.WiresReading{Set: len(j.sets) - 1, Shown: shown})
	}
	return j
}

// TestKnownBetter is for P5.12: no size becomes possible.
func TestKnownBetter(t *testing.T) {
	r := dice()
	found := map[string]int{}
	for i := range 1000 {
		j := anyJob(r)
		if i%2 == 0 {
			j, _ = anyTrueJob(r, true)
			j.readings = j.readings[:min(len(j.readings), api.MaxWiresReadings-1)]
		}
		before := bounds(t, j)
		for how := range 5 {
			now := better(r, j, how)
			l := bounds(t, now)
			if !allWithin(l, before) {
				t.Error(how, j, now, before, l)
			}
			if len(l) > 0 && !slices.Equal(l, before) {
				found["fewer"]++
			}
			if len(l) == 0 && len(before) > 0 {
				found["none"]++
			}
		}
	}
	if found["fewer"] < 500 || found["none"] < 100 {
		t.Error("sizes seldom become impossible", found)
	}
}

// TestShowsMore is for P5.12: readings that show more by some are those of sizes that are greater by as many.
func TestShowsMore(t *testing.T) {
	r := dice()
	for range 500 {
		j := anyJob(r)
		more := within(r, span(-100000, 100000))
		moved := copyOf(j)
		for i := range moved.readings {
			moved.readings[i].Shown += more
		}
		want := bounds(t, j)
		for i := range want {
			want[i].Low += more
			want[i].High += more
		}
		if got := bounds(t, moved); !slices.Equal(got, want) {
			t.Error(j, more, got, want)
		}
		once, e := wires.Wrong(j.rules, j.sets, j.readings)
		if again, f := wires.Wrong(moved.rules, moved.sets, moved.readings); !equalLists(once, again) || e != f {
			t.Error(j, more, once, again, e, f)
		}
	}
}

// TestNoWider is for P5.13: with one reading, and as wide as they can be.
func TestNoWider(t *testing.T) {
	r := dice()
	just := 0
	for i := range 1000 {
		j, _ := anyTrueJob(r, i%2 == 0)
		best, e := wires.Best(j.rules, j.sets)
		if e != api.OK {
			t.Fatal(j, e)
		}
		least, _ := wires.Width(j.rules, j.sets[best])
		for number, s := range j.sets {
			width, e := wires.Width(j.rules, s)
			if e != api.OK || least.Num*width.Den > width.Num*least.Den {
				t.Error(j, best, least, number, width, e)
			}
			l, e := wires.Sizes(j.rules, j.sets, j.readings[number:number+1])
			if e != api.OK {
				t.Fatal(j, number, e)
			}
			count := l[len(l)-1].High - l[0].Low + 1
			if count > exact.RoundUp(width.Num, width.Den)+1 {
				t.Error(j, number, width, l)
			}
			if count == exact.RoundUp(width.Num, width.Den)+1 {
				just++
			}
		}
	}
	if just < 100 {
		t.Error("the bound is seldom reached", just)
	}
}
