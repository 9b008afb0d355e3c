package lead_test

import (
	"slices"
	"testing"

	"acme/api"
	"acme/lead"
)

// lies reports whether parts of units lie within a span of units.
func lies(j job, parts int, s api.Span) bool {
	m := len(j.screw.Drunk)
	return m*s.Low <= parts && parts <= m*s.High
}

// TestTruth is for P6.9.
func TestTruth(t *testing.T) {
	r := dice()
	for range 300 {
		j := wideJob(r)
		way := anyWay(r, last(j), 20)
		from := r.IntN(last(j) + 1)
		to := within(r, span(from, min(last(j), from+40)))
		travelled, e := lead.Travel(j.screw, j.notches, way)
		worst, f := lead.Worst(j.screw, j.notches, from, to)
		if e != api.OK || f != api.OK {
			t.Fatal(j, e, f)
		}
		for range 20 {
			truth := anyTruth(r, j.screw)
			for i, n := range distancesIn(j, truth, way) {
				if !lies(j, n, travelled[i]) {
					t.Fatal(j, truth, way, i, n, travelled)
				}
			}
			for _, at := range way {
				if got, e := lead.Error(j.screw, j.notches, at); !lies(j, errorIn(j, truth, at, false), got) || e != api.OK {
					t.Fatal(j, truth, at, got, e)
				}
			}
			a := within(r, span(from, to))
			b := within(r, span(a, to))
			if n := errorIn(j, truth, b, false) - errorIn(j, truth, a, false); !lies(j, n, span(worst.Low, worst.High)) {
				t.Fatal(j, truth, a, b, n, worst)
			}
		}
	}
}

// TestOneTruth is for P6.10: of a screw of which all is known.
func TestOneTruth(t *testing.T) {
	r := dice()
	for range 300 {
		j := wideJob(r)
		truth := anyTruth(r, j.screw)
		one := narrowed(j, truth)
		way := anyWay(r, last(j), 12)
		var want []api.Span
		for _, n := range distancesIn(j, truth, way) {
			want = append(want, outward(j, just(n)))
		}
		if got, e := lead.Travel(one.screw, one.notches, way); !slices.Equal(got, want) || e != api.OK {
			t.Fatal(one, way, got, e, want)
		}
		for _, at := range way {
			if got, e := lead.Error(one.screw, one.notches, at); got != outward(j, just(errorIn(j, truth, at, false))) || e != api.OK {
				t.Fatal(one, at, got, e)
			}
		}
		from := r.IntN(last(j) + 1)
		to := within(r, span(from, min(last(j), from+20)))
		worst := worstIn(one, from, to)
		rounded := outward(j, span(worst.Low, worst.High))
		worst.Low, worst.High = rounded.Low, rounded.High
		if got, e := lead.Worst(one.screw, one.notches, from, to); got != worst || e != api.OK {
			t.Fatal(one, from, to, got, e, worst)
		}
	}
}

// TestEndsReached is for P6.10: all turns are at their low ends, or all at their high ones.
func TestEndsReached(t *testing.T) {
	r := dice()
	for range 300 {
		j := wideJob(r)
		var low, high truth
		for _, turn := range j.screw.Turns {
			low.turns, high.turns = append(low.turns, turn.Low), append(high.turns, turn.High)
		}
		for at := range last(j) + 1 {
			want := outward(j, span(errorIn(j, low, at, false), errorIn(j, high, at, false)))
			if got, e := lead.Error(j.screw, j.notches, at); got != want || e != api.OK {
				t.Fatal(j, at, got, e, want)
			}
		}
	}
}

// fewest returns how many notches are needed, or -1: from each step backward, over all last steps of the notch from it on.
func fewest(errors []api.Span, angles, limit int) int {
	const never = 1 << 20
	after := make([]int, len(errors)+1) // how many more are needed if one begins at a step; at the end none does
	after[len(errors)] = -1
	for from := len(errors); from >= 0; from-- {
		start, low, high := from-1, -4*api.MaxLeadCut*angles, 4*api.MaxLeadCut*angles
		if from == 0 {
			// Before the first notch there is just 0.
			start, low, high = 0, 0, 0
		}
		best := never
		for to := start; to <= len(errors); to++ {
			if to > start || from == 0 {
				best = min(best, 1+after[to])
			}
			if to == len(errors) {
				break
			}
			low, high = max(low, -angles*limit-errors[to].Low), min(high, angles*limit-errors[to].High)
			if floor(high, angles)*angles < low {
				break
			}
		}
		if from == 0 {
			if best >= never {
				return -1
			}
			return best
		}
		after[from-1] = best
	}
	return -1
}

// errorsOf returns the errors at all steps over all truths, without notches, times the number of angles: the least ones are those of the truth with all turns at their low ends, the greatest ones those of the high ends.
func errorsOf(j job) []api.Span {
	j.notches = nil
	var low, high truth
	for _, turn := range j.screw.Turns {
		low.turns, high.turns = append(low.turns, turn.Low), append(high.turns, turn.High)
	}
	var l []api.Span
	for step := range last(j) + 1 {
		l = append(l, span(errorIn(j, low, step, false), errorIn(j, high, step, false)))
	}
	return l
}

// TestWithinLimit is for P6.11.
func TestWithinLimit(t *testing.T) {
	r := dice()
	found := map[string]int{}
	for range 300 {
		j := wideJob(r)
		if r.IntN(3) > 0 {
			// Turns that are known better can be cut better.
			for i, turn := range j.screw.Turns {
				j.screw.Turns[i].High = min(turn.High, turn.Low+500)
			}
		}
		limit := within(r, span(0, 20000))
		l, e := lead.Cut(j.screw, limit)
		want := fewest(errorsOf(j), len(j.screw.Drunk), limit)
		if e != api.OK {
			if e != api.ErrNone || l != nil || 0 <= want && want <= api.MaxLeadNotches {
				t.Fatal(j, limit, l, e, want)
			}
			found["none"]++
			continue
		}
		if len(l) != want {
			t.Fatal(j, limit, l, want)
		}
		found["some"] += min(want, 1)
		for at := range last(j) + 1 {
			if got, e := lead.Error(j.screw, l, at); got.Low < -limit || got.High > limit || e != api.OK {
				t.Fatal(j, limit, l, at, got, e)
			}
		}
	}
	if found["none"] < 20 || found["some"] < 50 {
		t.Error("few have such results", found)
	}
}

// TestCloserLimit is for P6.12.
func TestCloserLimit(t *testing.T) {
	r := dice()
	for range 200 {
		j := wideJob(r)
		before := 1 << 20
		for _, limit := range []int{0, 1, 300, 2000, 2001, 5000, 7000, 9000, 12000, 15000, 19999, 20000, 20001, 40000} {
			l, e := lead.Cut(j.screw, limit)
			if e != api.OK && before < 1<<20 || len(l) > before {
				t.Fatal(j, limit, l, e, before)
			}
			if e == api.OK {
				before = len(l)
			}
		}
		many := []int{0, 1, 2, 5, 50, 200}[r.IntN(6)]
		least, e := lead.Least(j.screw, many)
		if e != api.OK {
			t.Fatal(j, many, e)
		}
		if l, e := lead.Cut(j.screw, least); len(l) > many || e != api.OK {
			t.Fatal(j, many, least, l, e)
		}
		if least == 0 {
			continue
		}
		if l, e := lead.Cut(j.screw, least-1); e == api.OK && len(l) <= many || e != api.OK && e != api.ErrNone {
			t.Fatal(j, many, least, l, e)
		}
	}
}
