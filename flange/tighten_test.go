package flange_test

import (
	"math"
	"math/rand/v2"
	"slices"
	"testing"

	"acme/api"
	"acme/flange"
)

// checkTighten reports what Tighten does not return as it should.
func checkTighten(t *testing.T, r api.FlangeRules, forces []api.Span, s api.FlangeStep, want ...api.Span) {
	t.Helper()
	if got, e := flange.Tighten(r, forces, s); !slices.Equal(got, want) || e != api.OK {
		t.Error(r, forces, s, got, e, want)
	}
}

// spans returns spans of one integer each.
func spans(numbers ...int) []api.Span {
	var l []api.Span
	for _, n := range numbers {
		l = append(l, just(n))
	}
	return l
}

// TestTightenExample is for P10.2: the chapter's example 1.
func TestTightenExample(t *testing.T) {
	first := []api.Span{span(17350, 20000), just(0), just(0), just(0)}
	checkTighten(t, example(), make([]api.Span, 4), api.FlangeStep{Bolt: 0, Torque: 66800000}, first...)
	checkTighten(t, example(), first, api.FlangeStep{Bolt: 1, Torque: 66800000}, span(13350, 16530), span(17350, 20000), just(0), just(0))
	checkTighten(t, example(), first, api.FlangeStep{Bolt: 2, Torque: 66800000}, span(15350, 18265), just(0), span(17350, 20000), just(0))
	checkTighten(t, example(), first, api.FlangeStep{Bolt: 3, Torque: 66800000}, span(13350, 16530), just(0), just(0), span(17350, 20000))
	// No other field of the flange counts.
	checkTighten(t, example(need(0), yields(just(1))), make([]api.Span, 4), api.FlangeStep{Bolt: 0, Torque: 66800000}, first...)
}

// TestTightenDistances is for P10.2: each bolt loses the share of its distance, the shorter way around.
func TestTightenDistances(t *testing.T) {
	lose := func(count, number int, share []int, want ...int) {
		t.Helper()
		forces := slices.Repeat(spans(1000), count)
		forces[number] = just(0)
		checkTighten(t, example(plain(), around(count, share...)), forces, api.FlangeStep{Bolt: number, Torque: 1000}, spans(want...)...)
	}
	lose(3, 0, []int{100}, 1000, 900, 900)
	lose(3, 1, []int{100}, 900, 1000, 900)
	lose(3, 2, []int{100}, 900, 900, 1000)
	lose(4, 0, []int{300, 10}, 1000, 700, 990, 700)
	lose(4, 3, []int{300, 10}, 700, 990, 700, 1000)
	lose(5, 1, []int{300, 10}, 700, 1000, 700, 990, 990)
	lose(5, 4, []int{300, 10}, 700, 990, 990, 700, 1000)
	lose(6, 2, []int{1, 20, 300}, 980, 999, 1000, 999, 980, 700)
	lose(11, 9, []int{1, 2, 3, 4, 5}, 998, 997, 996, 995, 995, 996, 997, 998, 999, 1000, 999)
	lose(12, 0, []int{1, 2, 3, 4, 5, 6}, 1000, 999, 998, 997, 996, 995, 994, 995, 996, 997, 998, 999)
	lose(12, 7, []int{1, 2, 3, 4, 5, 500}, 995, 500, 995, 996, 997, 998, 999, 1000, 999, 998, 997, 996)
}

// TestTightenForce is for P10.2: a bolt keeps the greater force, and has gained the difference. The torque 1000 gives 500 to 1000.
func TestTightenForce(t *testing.T) {
	r := example(halved(), around(3, 100))
	for _, c := range []struct{ had, force, other api.Span }{
		{just(0), span(500, 1000), span(1900, 1950)},
		{just(100), span(500, 1000), span(1910, 1960)},
		{span(100, 200), span(500, 1000), span(1910, 1970)},
		{span(100, 700), span(500, 1000), span(1910, 2000)},
		{span(100, 1200), span(500, 1200), span(1910, 2000)},
		{just(500), span(500, 1000), span(1950, 2000)},
		{just(501), span(501, 1000), span(1950, 2000)},
		{span(499, 500), span(500, 1000), span(1949, 2000)},
		{span(600, 900), span(600, 1000), span(1960, 2000)},
		{span(999, 1000), span(999, 1000), span(1999, 2000)},
		// Nothing happens, whatever the torque gives.
		{just(1000), just(1000), just(2000)},
		{span(1000, 1001), span(1000, 1001), just(2000)},
		{just(5000), just(5000), just(2000)},
		{span(1500, 100000000), span(1500, 100000000), just(2000)},
	} {
		for number := range 3 {
			forces, want := slices.Repeat(spans(2000), 3), slices.Repeat([]api.Span{c.other}, 3)
			forces[number], want[number] = c.had, c.force
			checkTighten(t, r, forces, api.FlangeStep{Bolt: number, Torque: 1000}, want...)
		}
	}
}

// TestTightenRounds is for P10.2: the smaller loss is rounded down, the greater one up, and no force falls below 0.
func TestTightenRounds(t *testing.T) {
	step := func(share, gain int, had, want api.Span) {
		t.Helper()
		r := example(plain(), around(3, share))
		checkTighten(t, r, []api.Span{just(0), had, had}, api.FlangeStep{Torque: gain}, just(gain), want, want)
	}
	step(1, 1, just(50), span(49, 50))
	step(1, 999, just(50), span(49, 50))
	step(1, 1000, just(50), just(49))
	step(1, 1001, just(50), span(48, 49))
	step(333, 3, just(50), span(49, 50))
	step(334, 3, just(50), span(48, 49))
	step(500, 1, just(50), span(49, 50))
	step(500, 2, just(50), just(49))
	step(0, 99999, just(50), just(50))
	step(1, 0, just(50), just(50))
	step(500, 99, just(50), span(0, 1))
	step(500, 99, span(10, 60), span(0, 11))
	step(500, 100, just(50), just(0))
	step(500, 101, span(49, 51), span(0, 1))
	step(500, 101, span(49, 50), just(0))
	step(500, 100000000, just(50), just(0))
	step(500, 100000000, just(100000000), just(50000000))
	step(500, 99999999, just(100000000), span(50000000, 50000001))
	step(500, 100000000, span(0, 100000000), span(0, 50000000))
}

// oneStep returns the least and the greatest force of each bolt after a step, by looking at all that can be true.
func oneStep(r api.FlangeRules, forces []api.Span, s api.FlangeStep) []api.Span {
	all, alone := slices.Repeat([]api.Span{span(math.MaxInt, math.MinInt)}, r.Bolts), aloneOf(r, s.Torque)
	found := func(number, force int) {
		all[number] = span(min(all[number].Low, force), max(all[number].High, force))
	}
	for had := forces[s.Bolt].Low; had <= forces[s.Bolt].High; had++ {
		for gives := alone.Low; gives <= alone.High; gives++ {
			found(s.Bolt, max(had, gives))
			for number := range r.Bolts {
				if number == s.Bolt {
					continue
				}
				loss := float64(max(gives-had, 0)*r.Share[distance(r, number, s.Bolt)-1]) / 1000
				for other := forces[number].Low; other <= forces[number].High; other++ {
					found(number, max(other-int(math.Floor(loss)), 0))
					found(number, max(other-int(math.Ceil(loss)), 0))
				}
			}
		}
	}
	return all
}

// anyForces returns what may be known of the forces of all bolts.
func anyForces(r *rand.Rand, count, most int) []api.Span {
	var forces []api.Span
	for range count {
		low := r.IntN(most)
		forces = append(forces, span(low, low+r.IntN(5)))
	}
	return forces
}

// TestTightenSearch is for P10.2: all that can be true of flanges with small forces.
func TestTightenSearch(t *testing.T) {
	r := dice()
	for range 1000 {
		rules := anyRules(r, 12)
		rules.Kind = spread([]int{0, 100, 500}[r.IntN(3)])
		forces, s := anyForces(r, rules.Bolts, 30), api.FlangeStep{Bolt: r.IntN(rules.Bolts), Torque: r.IntN(50)}
		checkTighten(t, rules, forces, s, oneStep(rules, forces, s)...)
	}
}

// TestTightenLimits is for P10.2: forces and torques as great as may be.
func TestTightenLimits(t *testing.T) {
	all := []api.Span{just(100000000), span(0, 100000000), just(0)}
	checkTighten(t, example(plain(), even(3, 500)), all, api.FlangeStep{Bolt: 2, Torque: 100000000}, just(50000000), span(0, 50000000), just(100000000))
	checkTighten(t, example(plain(), even(3, 500)), all, api.FlangeStep{Bolt: 1, Torque: 100000000}, span(50000000, 100000000), just(100000000), just(0))
	checkTighten(t, example(plain(), even(3, 500)), all, api.FlangeStep{Bolt: 2, Torque: 0}, all...)
	checkTighten(t, example(heavy(), even(3, 500)), make([]api.Span, 3), api.FlangeStep{Bolt: 2, Torque: 10000000000000}, just(0), just(0), just(33333333))
}

// TestTightenErrors is for P10.2's errors and their order, with each limit reached and passed by one.
func TestTightenErrors(t *testing.T) {
	fail := func(r api.FlangeRules, forces []api.Span, s api.FlangeStep, want api.Errno) {
		t.Helper()
		if got, e := flange.Tighten(r, forces, s); got != nil || e != want {
			t.Error(r, forces, s, got, e, want)
		}
	}
	good, bad := api.FlangeStep{Bolt: 3, Torque: 66800000}, api.FlangeStep{Bolt: 4, Torque: -1}
	for _, s := range []api.FlangeStep{good, bad} {
		for _, count := range []int{0, 1, 3, 5, 12, 1000} {
			fail(example(), make([]api.Span, count), s, api.ErrForm)
			fail(example(), slices.Repeat([]api.Span{span(1, 0)}, count), s, api.ErrForm)
		}
		for place := range 4 {
			for _, wrong := range badSpans(0, 100000000) {
				forces := make([]api.Span, 4)
				forces[place] = wrong
				fail(example(), forces, s, api.ErrArg)
			}
		}
	}
	for _, number := range outside(0, 3) {
		fail(example(), make([]api.Span, 4), api.FlangeStep{Bolt: number, Torque: 66800000}, api.ErrNone)
		fail(example(), make([]api.Span, 4), api.FlangeStep{Bolt: number, Torque: -1}, api.ErrNone)
	}
	for _, number := range outside(0, 2) {
		fail(example(even(3, 5)), make([]api.Span, 3), api.FlangeStep{Bolt: number}, api.ErrNone)
	}
	for _, c := range torqueCases() {
		for number := range 4 {
			_, e := flange.Tighten(c.rules, make([]api.Span, 4), api.FlangeStep{Bolt: number, Torque: c.torque})
			if e != c.want {
				t.Error(c, number, e)
			}
			if c.want != api.OK {
				fail(c.rules, make([]api.Span, 4), api.FlangeStep{Bolt: number, Torque: c.torque}, c.want)
			}
		}
	}
}
