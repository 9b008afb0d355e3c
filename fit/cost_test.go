package fit_test

import (
	"math/rand/v2"
	"testing"

	"acme/api"
	"acme/fit"
)

// rules returns the rules of the chapter's example.
func rules() api.FitRules {
	return api.FitRules{Step: span(-2, 3), Thick: span(4990, 5000), Left: span(577, 577), Right: span(577, 577)}
}

// ruled returns these rules with other leans.
func ruled(step, thick, left, right api.Span) api.FitRules {
	return api.FitRules{Step: step, Thick: thick, Left: left, Right: right}
}

// TestCost is for P3.6: the chapter's example and others that are worked out by hand.
func TestCost(t *testing.T) {
	exactly := span(577, 577)
	for i, c := range []struct {
		f     api.ThreadForm
		r     api.FitRules
		turns int
		depth api.Span
		want  api.Span
	}{
		{metric(), rules(), 5, usual(), span(-8, 11)},
		// One turn has no steps; more turns have more of them.
		{metric(), rules(), 1, usual(), span(-8, 0)}, {metric(), rules(), 2, usual(), span(-8, 3)}, {metric(), rules(), 60, usual(), span(-8, 154)},
		// Steps that are all too long, all too short, or more too short than too long.
		{metric(), ruled(span(2, 3), span(5000, 5000), exactly, exactly), 5, usual(), span(7, 11)}, {metric(), ruled(span(-3, -2), span(5000, 5000), exactly, exactly), 5, usual(), span(7, 11)}, {metric(), ruled(span(-9, 3), span(5000, 5000), exactly, exactly), 5, usual(), span(0, 32)}, {metric(), ruled(span(-1000, 1000), span(5000, 5000), exactly, exactly), 60, usual(), span(0, 51127)}, {metric(), ruled(span(1000, 1000), span(5000, 5000), exactly, exactly), 60, usual(), span(51127, 51127)}, {metric(), ruled(span(-1000, -1000), span(5000, 5000), exactly, exactly), 60, usual(), span(51127, 51127)}, {metric(), ruled(span(0, 0), span(5000, 5000), exactly, exactly), 60, usual(), span(0, 0)},
		// Teeth that are thicker than a pitch, or have no width.
		{metric(), ruled(span(0, 0), span(0, 200000), exactly, exactly), 5, usual(), span(-4332, 168978)},
		// Leans on both sides of that of the form, on one side, and a depth that has not the pitch line.
		{metric(), ruled(span(0, 0), span(5000, 5000), span(567, 597), exactly), 5, usual(), span(0, 52)}, {metric(), ruled(span(0, 0), span(5000, 5000), exactly, span(557, 587)), 5, usual(), span(0, 52)}, {metric(), ruled(span(0, 0), span(5000, 5000), span(587, 597), span(587, 597)), 5, usual(), span(52, 104)}, {metric(), ruled(span(0, 0), span(5000, 5000), span(557, 567), span(547, 567)), 5, usual(), span(52, 130)},
		{metric(), ruled(span(0, 0), span(5000, 5000), span(567, 597), exactly), 5, span(1000, 3000), span(-17, 26)}, {metric(), ruled(span(0, 0), span(5000, 5000), exactly, span(567, 597)), 5, span(1000, 3000), span(-17, 26)}, {metric(), ruled(span(0, 0), span(5000, 5000), span(567, 597), exactly), 5, span(-3000, -1000), span(-8, 52)}, {metric(), ruled(span(0, 0), span(5000, 5000), span(567, 597), exactly), 5, span(0, 3000), span(0, 26)}, {metric(), ruled(span(0, 0), span(5000, 5000), span(567, 597), span(567, 597)), 5, span(-3000, 0), span(0, 104)},
		// Each lean has that of its own side of the form.
		{leaning(10000, 600, 401), ruled(span(0, 0), span(5000, 5000), span(600, 600), span(391, 411)), 5, usual(), span(0, 30)}, {leaning(10000, 401, 600), ruled(span(0, 0), span(5000, 5000), span(391, 411), span(600, 600)), 5, usual(), span(0, 30)},
		// All of it together, rounded once.
		{leaning(10000, 600, 401), ruled(span(-2, 3), span(4999, 5001), span(590, 601), span(400, 402)), 3, span(-100, 50), span(0, 8)},
		// As far as limits go.
		{leaning(200000, 1, 0), ruled(span(-1000, 1000), span(0, 200000), span(0, 3000), span(0, 3000)), 60, span(-200000, 200000), span(-100000000, 100000000+59000000+200000*2999+200000*3000)},
		{leaning(200000, 0, 1), ruled(span(-1000, 1000), span(0, 0), span(0, 3000), span(0, 3000)), 60, span(200000, 200000), span(-100000000-200000*2999-200000*3000, -100000000+59000000+200000)},
	} {
		if got, e := fit.Cost(c.f, c.r, c.turns, c.depth); got != c.want || e != api.OK {
			t.Error(i, got, e, c.want)
		}
	}
}

// badRules returns rules that are not as they should be.
func badRules() []api.FitRules {
	var l []api.FitRules
	add := func(low, high int, with func(r *api.FitRules, s api.Span)) {
		bad := []api.Span{span(low-1, high), span(low, high+1), span(low+1, low), span(high, low), span(low-1, low-1), span(high+1, high+1)}
		for _, n := range extremes() {
			if n < low || n > high {
				bad = append(bad, span(n, high), span(low, n), span(n, n))
			}
		}
		for _, s := range bad {
			r := rules()
			with(&r, s)
			l = append(l, r)
		}
	}
	add(-1000, 1000, func(r *api.FitRules, s api.Span) { r.Step = s })
	add(0, 200000, func(r *api.FitRules, s api.Span) { r.Thick = s })
	add(0, 3000, func(r *api.FitRules, s api.Span) { r.Left = s })
	add(0, 3000, func(r *api.FitRules, s api.Span) { r.Right = s })
	return l
}

// TestCostErrors is for P3.6: turns come before rules, rules before the depth, and the depth before a form without leans.
func TestCostErrors(t *testing.T) {
	check := func(f api.ThreadForm, r api.FitRules, turns int, depth api.Span, want api.Errno) {
		t.Helper()
		got := valueAnswer(fit.Cost(f, r, turns, depth))
		if got.e != want || want != api.OK && !got.zero {
			t.Error(f, r, turns, depth, got, want)
		}
	}
	for _, turns := range append(extremes(), 61) {
		if turns == 1 {
			continue
		}
		for _, f := range []api.ThreadForm{metric(), straight()} {
			check(f, rules(), turns, usual(), api.ErrRange)
			check(f, badRules()[0], turns, span(1, 0), api.ErrRange)
		}
	}
	for _, r := range badRules() {
		for _, f := range []api.ThreadForm{metric(), straight()} {
			check(f, r, 1, usual(), api.ErrArg)
			check(f, r, 60, span(1, 0), api.ErrArg)
		}
	}
	for _, r := range []api.FitRules{rules(), {}, ruled(span(-1000, 1000), span(0, 200000), span(0, 3000), span(0, 3000)), ruled(span(1000, 1000), span(200000, 200000), span(3000, 3000), span(3000, 3000)), ruled(span(-1000, -1000), span(0, 0), span(0, 0), span(0, 0))} {
		check(straight(), r, 60, usual(), api.ErrNone)
		check(metric(), r, 60, usual(), api.OK)
		check(leaning(10000, 0, 1), r, 1, usual(), api.OK)
		check(leaning(10000, 1, 0), r, 1, usual(), api.OK)
	}
}

// integers returns all integers of a span.
func integers(s api.Span) []int {
	var l []int
	for n := s.Low; n <= s.High; n++ {
		l = append(l, n)
	}
	return l
}

// ruledTurns calls visit with the turns of each screw within rules whose turns before these are known.
func ruledTurns(f api.ThreadForm, r api.FitRules, turns int, before []api.FitTurn, visit func([]api.FitTurn)) {
	if len(before) == turns {
		visit(before)
		return
	}
	steps := []int{-f.Pitch}
	if len(before) > 0 {
		steps = integers(r.Step)
	}
	for _, step := range steps {
		for _, width := range integers(r.Thick) {
			left := f.Pitch + step
			if len(before) > 0 {
				left += before[len(before)-1].Left
			}
			ruledTurns(f, r, turns, append(before[:len(before):len(before)], api.FitTurn{Left: left, Right: left + width}), visit)
		}
	}
}

// smallRules returns forms and rules with few screws within them.
func smallRules(r *rand.Rand) (api.ThreadForm, api.FitRules) {
	f := forms()[r.IntN(len(forms()))]
	about := func(n, low, high int) api.Span {
		from := min(max(near(r, n, 4), low), high-2)
		return span(from, from+r.IntN(3))
	}
	return f, ruled(about(0, -9, 9), about(f.Pitch/2, 0, 200000), about(f.Left, 0, 3000), about(f.Right, 0, 3000))
}

// sizeWithin finds the size of a screw between two sizes, also if its teeth overlap; ok is false if it is none of them.
func sizeWithin(f api.ThreadForm, screw api.FitThread, low, high int, depth api.Span) (size int, ok bool) {
	goes := func(size int) bool { return goesInto(asIs(screw), perfect(f, size), len(screw.Turns), depth) }
	if goes(low-1) || !goes(high) {
		return 0, false
	}
	for low < high {
		middle := low + (high-low)/2
		if goes(middle) {
			high = middle
		} else {
			low = middle + 1
		}
	}
	return low, true
}

// TestRange is for P3.6 and P3.10: all screws within rules, one by one.
func TestRange(t *testing.T) {
	r := dice()
	near := []api.Span{span(0, 0), span(-2, 3), span(-4, 0), span(0, 300), span(10, 13), span(-9, -7), span(-1000, -500), span(500, 1000)}
	for range 80 {
		f, rules := smallRules(r)
		depth, turns := near[r.IntN(len(near))], 1+r.IntN(3)
		span, e := fit.Cost(f, rules, turns, depth)
		if e != api.OK {
			t.Fatal(f, rules, turns, depth, e)
		}
		least, greatest := span.High, span.Low
		ruledTurns(f, rules, turns, nil, func(all []api.FitTurn) {
			for _, left := range integers(rules.Left) {
				for _, right := range integers(rules.Right) {
					screw := api.FitThread{Turns: all, Left: left, Right: right}
					size, ok := sizeWithin(f, screw, span.Low, span.High, depth)
					if !ok {
						t.Fatal("outside", f, rules, turns, depth, span, screw)
					}
					if got, e := fit.Screw(f, screw, depth); e == api.OK && got != size {
						t.Fatal("Screw", f, screw, depth, got, size)
					}
					least, greatest = min(least, size), max(greatest, size)
				}
			}
		})
		if least != span.Low || greatest != span.High {
			t.Error(f, rules, turns, depth, span, least, greatest)
		}
	}
}
