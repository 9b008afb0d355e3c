package wires_test

import (
	"math/big"
	"testing"

	"acme/api"
	"acme/wires"
)

// truth returns a truth of the examples.
func truth(size int, trio [3]int, press, wrong int) api.WiresTruth {
	return api.WiresTruth{Size: size, Pitch: 10000, Wires: trio, Press: press, Error: wrong}
}

// TestShows is for P5.2.
func TestShows(t *testing.T) {
	low := example(angles(api.WiresAngle{Factor: 1001, Half: 1}, api.WiresAngle{Factor: 20000, Half: 20000}), pitch(span(100, 101)), press(just(0)), errs(just(0)))
	thin := set(span(1, 2), span(1, 2), span(1, 2))
	for i, c := range []struct {
		r    api.WiresRules
		s    api.WiresSet
		t    api.WiresTruth
		want int
	}{
		{example().rules, example().sets[0], truth(93505, [3]int{6000, 6000, 6000}, 0, 0), 102845},
		{example().rules, example().sets[0], truth(93505, [3]int{6001, 6000, 6000}, 0, 0), 102845},
		{example().rules, example().sets[0], truth(93505, [3]int{6000, 6001, 6000}, 0, 0), 102845},
		{example().rules, example().sets[0], truth(93505, [3]int{6000, 6000, 6001}, 0, 0), 102846},
		{example().rules, example().sets[0], truth(93505, [3]int{6001, 6001, 6000}, 0, 0), 102846},
		{example().rules, example().sets[0], truth(93501, [3]int{6001, 6001, 6001}, 0, 1), 102845},
		{example().rules, example().sets[0], truth(93508, [3]int{6000, 6000, 6000}, 2, -1), 102845},
		{example().rules, example().sets[0], truth(-20000000, [3]int{6000, 6000, 6000}, 0, 0), -19990660},
		{example().rules, example().sets[0], truth(20000000, [3]int{6000, 6000, 6000}, 0, 0), 20009340},
		{example().rules, example().sets[1], truth(93500, [3]int{5800, 5800, 5800}, 1, 1), 102240},
		// 1.001 - 0.1, and 1.001 - 0.101; then below 0, where down is away from it.
		{low.rules, thin, api.WiresTruth{Pitch: 100, Wires: [3]int{1, 1, 1}}, 0},
		{low.rules, thin, api.WiresTruth{Size: -5, Pitch: 101, Wires: [3]int{1, 1, 1}}, -5},
		{low.rules, thin, api.WiresTruth{Size: -5, Pitch: 100, Wires: [3]int{2, 2, 2}}, -4},
		// 20 - 2000, and 20 - 2020; 25 with one wire more, 30 with the third one.
		{low.rules, thin, api.WiresTruth{Angle: 1, Pitch: 100, Wires: [3]int{1, 1, 1}}, -1980},
		{low.rules, thin, api.WiresTruth{Angle: 1, Pitch: 101, Wires: [3]int{1, 1, 1}}, -2000},
		{low.rules, thin, api.WiresTruth{Angle: 1, Pitch: 101, Wires: [3]int{1, 2, 1}}, -1995},
		{low.rules, thin, api.WiresTruth{Angle: 1, Pitch: 101, Wires: [3]int{1, 1, 2}}, -1990},
	} {
		if got, e := wires.Shows(c.r, c.s, c.t); got != c.want || e != api.OK {
			t.Error(i, got, e)
		}
	}
}

// valueOf computes what is shown in a truth before it is rounded, as the chapter says it.
func valueOf(r api.WiresRules, t api.WiresTruth) *big.Rat {
	angle := r.Angles[t.Angle]
	v := big.NewRat(int64(t.Size-t.Press+t.Error), 1)
	lifted := big.NewRat(int64(t.Wires[0]+t.Wires[1]+2*t.Wires[2]), 4000)
	v.Add(v, lifted.Mul(lifted, big.NewRat(int64(angle.Factor), 1)))
	sunk := big.NewRat(int64(t.Pitch), 1000)
	return v.Sub(v, sunk.Mul(sunk, big.NewRat(int64(angle.Half), 1)))
}

// TestShowsExactly is for P5.2: what is shown is at most the exact value, and less than 1 below it.
func TestShowsExactly(t *testing.T) {
	r := dice()
	for i := range 20000 {
		rules, sets := anyRules(r), anySets(r, 1)
		if i%2 == 0 {
			rules, sets = wideRules(r), wideSets(r, 1)
		}
		truth := anyTruth(r, rules, sets)[0]
		got, e := wires.Shows(rules, sets[0], truth)
		rest := new(big.Rat).Sub(valueOf(rules, truth), big.NewRat(int64(got), 1))
		if e != api.OK || rest.Sign() < 0 || rest.Cmp(big.NewRat(1, 1)) >= 0 {
			t.Error(rules, sets, truth, got, e)
		}
	}
}

// notTruths returns truths of which one number is beyond its limits, for rules with two angles and the set 0 of the examples.
func notTruths() []api.WiresTruth {
	var l []api.WiresTruth
	add := func(low, high int, to func(t *api.WiresTruth) *int) {
		for _, n := range outside(low, high) {
			bad := truth(93505, [3]int{6000, 6000, 6000}, 0, 0)
			*to(&bad) = n
			l = append(l, bad)
		}
	}
	add(-20000000, 20000000, func(t *api.WiresTruth) *int { return &t.Size })
	add(0, 1, func(t *api.WiresTruth) *int { return &t.Angle })
	add(10000, 10000, func(t *api.WiresTruth) *int { return &t.Pitch })
	for i := range 3 {
		add(6000, 6001, func(t *api.WiresTruth) *int { return &t.Wires[i] })
	}
	add(0, 2, func(t *api.WiresTruth) *int { return &t.Press })
	add(-1, 1, func(t *api.WiresTruth) *int { return &t.Error })
	return append(l, api.WiresTruth{})
}

// TestShowsArg is for P5.2: truths that are none of the rules and the set.
func TestShowsArg(t *testing.T) {
	j := example(metric(2))
	for _, truth := range notTruths() {
		if got, e := wires.Shows(j.rules, j.sets[0], truth); got != 0 || e != api.ErrArg {
			t.Error(truth, got, e)
		}
	}
	// Each number at each of its limits is one.
	for _, size := range []int{-20000000, 20000000} {
		for angle := range 2 {
			for trio := range allWires(j.sets[0]) {
				for press := range 3 {
					for wrong := -1; wrong <= 1; wrong++ {
						one := truth(size, trio, press, wrong)
						one.Angle = angle
						if got, e := wires.Shows(j.rules, j.sets[0], one); got != shown(j.rules, one) || e != api.OK {
							t.Error(one, got, e)
						}
					}
				}
			}
		}
	}
}
