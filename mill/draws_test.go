package mill_test

import (
	"slices"
	"testing"

	"acme/api"
	"acme/mill"
)

func checkDraws(t *testing.T, r api.MillRules, from, to int, want []api.MillDraw, wantE api.Errno) {
	t.Helper()
	if got, e := mill.Draws(r, from, to); e != wantE || !slices.Equal(got, want) {
		t.Error(r, from, to, got, e, want, wantE)
	}
}

// TestDrawsExample is for P12.1: the chapter's example, and others by hand.
func TestDrawsExample(t *testing.T) {
	r := example()
	checkDraws(t, r, 1000, 600, drawn(900, 800, -700, 600), api.OK)
	r.Reduce = 250
	checkDraws(t, r, 1000, 600, nil, api.ErrState)
	r = example()
	// From where wire is drawn there need not be a die; it is annealed at first.
	checkDraws(t, r, 950, 600, drawn(800, 700, -600), api.OK)
	checkDraws(t, r, 850, 600, drawn(800, 700, -600), api.OK)
	checkDraws(t, r, 840, 600, drawn(800, 700, 600), api.OK)
	checkDraws(t, r, 800, 600, drawn(700, 600), api.OK)
	checkDraws(t, r, 601, 600, drawn(600), api.OK)
	checkDraws(t, r, 700, 700, nil, api.OK)
	checkDraws(t, r, 777, 777, nil, api.OK)
	checkDraws(t, r, 1, 1, nil, api.OK)
	checkDraws(t, r, 100000, 100000, nil, api.OK)
	// Wire does not become wider.
	checkDraws(t, r, 699, 700, nil, api.ErrState)
	checkDraws(t, r, 499, 500, nil, api.ErrState)
	checkDraws(t, r, 600, 900, nil, api.ErrState)
	// A die that is too far, and one that is left out.
	checkDraws(t, r, 2000, 900, nil, api.ErrState)
	checkDraws(t, rules(999, 999, 900, 800, 700), 1000, 700, drawn(700), api.OK)
	checkDraws(t, rules(300, 999, 900, 800, 700), 1000, 700, drawn(900, 800, 700), api.OK)
	checkDraws(t, rules(420, 999, 900, 800, 700), 1000, 700, drawn(800, 700), api.OK)
	checkDraws(t, rules(509, 999, 900, 800, 700), 1000, 700, drawn(800, 700), api.OK)
	checkDraws(t, rules(510, 999, 900, 800, 700), 1000, 700, drawn(700), api.OK)
}

// TestDrawsLimits is for P12.1: a section that falls by just as much as it may, and by one thousandth more.
func TestDrawsLimits(t *testing.T) {
	checkDraws(t, rules(190, 999, 900), 1000, 900, drawn(900), api.OK)
	checkDraws(t, rules(189, 999, 900), 1000, 900, nil, api.ErrState)
	checkDraws(t, rules(999, 190, 900), 1000, 900, drawn(900), api.OK)
	checkDraws(t, rules(999, 189, 900), 1000, 900, nil, api.ErrState)
	checkDraws(t, rules(640, 640, 800, 600), 1000, 600, drawn(600), api.OK)
	checkDraws(t, rules(639, 640, 800, 600), 1000, 600, drawn(800, 600), api.OK)
	checkDraws(t, rules(640, 639, 800, 600), 1000, 600, drawn(800, -600), api.OK)
}

// TestDrawsChoice is for P12.1: fewer annealings come before fewer draws, then the smaller list.
func TestDrawsChoice(t *testing.T) {
	// With two annealings three draws are enough, with one they are four, since it must be at 825.
	r := rules(300, 350, 894, 849, 825, 742, 707, 671)
	checkDraws(t, r, 1000, 671, drawn(849, 825, -707, 671), api.OK)
	if !isAllowed(r, 1000, drawn(849, -742, -671)) {
		t.Error("three draws are not allowed")
	}
	// Of two lists with as many draws the smaller diameter comes first.
	checkDraws(t, rules(300, 999, 93, 92, 91, 90, 80), 100, 80, drawn(90, 80), api.OK)
	checkDraws(t, rules(220, 999, 93, 92, 91, 90, 80), 100, 80, drawn(90, 80), api.OK)
	checkDraws(t, rules(226, 999, 95, 92, 90, 89, 88, 80, 78), 100, 78, drawn(88, 78), api.OK)
	checkDraws(t, rules(225, 999, 95, 92, 90, 89, 88, 80, 78), 100, 78, drawn(89, 80, 78), api.OK)
	// It is annealed as late as it can be, but for a smaller diameter.
	checkDraws(t, rules(250, 400, 90, 80, 70), 100, 70, drawn(90, 80, -70), api.OK)
	checkDraws(t, rules(310, 400, 90, 80, 75, 70), 100, 70, drawn(90, -75, 70), api.OK)
}

// TestDrawsSearch is for P12.1, against all lists of draws through few dies.
func TestDrawsSearch(t *testing.T) {
	r := dice()
	found, many := 0, 0
	for range 6000 {
		l := anyRules(r, 6)
		from, to := anyWire(r, l)
		var best []api.MillDraw
		none := true
		for _, draws := range allDraws(l.Dies, from, to) {
			if isAllowed(l, from, draws) && (none || compareDraws(draws, best) < 0) {
				best, none = draws, false
			}
		}
		if none {
			checkDraws(t, l, from, to, nil, api.ErrState)
			continue
		}
		checkDraws(t, l, from, to, best, api.OK)
		found++
		if annealings(best) > 0 {
			many++
		}
	}
	if found < 1000 || many < 300 {
		t.Error(found, many)
	}
}

// allDraws returns all lists of draws from one diameter to another one, allowed or not.
func allDraws(dies []int, from, to int) [][]api.MillDraw {
	if from == to {
		return [][]api.MillDraw{nil}
	}
	var all [][]api.MillDraw
	for _, diameter := range dies {
		if diameter >= from || diameter < to {
			continue
		}
		for _, rest := range allDraws(dies, diameter, to) {
			for _, first := range [][]api.MillDraw{drawn(diameter), drawn(-diameter)} {
				all = append(all, append(first, rest...))
			}
		}
	}
	return all
}

// TestDrawsFull is for P12.1 and R7: as many dies as there may be, as wide as they may be, which are all used.
func TestDrawsFull(t *testing.T) {
	dies := manyDies(20, 99999)
	// A draw takes about 20 millionths of the section: by 1 thousandth it falls in 50 units, but not in 51.
	checkDraws(t, rules(1, 1, 99950), 100000, 99950, drawn(99950), api.OK)
	checkDraws(t, rules(1, 1, 99949), 100000, 99949, nil, api.ErrState)
	checkDraws(t, rules(999, 999, dies...), 100000, 99980, drawn(99980), api.OK)
	// Each die takes 190 thousandths of the section, two of them take 344, all of them 985.
	var chain []int
	for at := 100000; len(chain) < 20; {
		at = at * 9 / 10
		chain = append(chain, at)
	}
	last, soft := chain[19], []int{chain[0]}
	for _, to := range chain[1:] {
		soft = append(soft, -to)
	}
	checkDraws(t, rules(191, 986, chain...), 100000, last, drawn(chain...), api.OK)
	checkDraws(t, rules(191, 191, chain...), 100000, last, drawn(soft...), api.OK)
	checkDraws(t, rules(189, 999, chain...), 100000, last, nil, api.ErrState)
	checkDraws(t, rules(999, 189, chain...), 100000, last, nil, api.ErrState)
	// All of the narrowest wire.
	one := manyDies(20, 20)
	checkDraws(t, rules(999, 999, one...), 31, 1, drawn(1), api.OK)
	checkDraws(t, rules(999, 999, one...), 32, 1, drawn(2, -1), api.OK)
	checkDraws(t, rules(1, 1, one...), 21, 20, nil, api.ErrState)
	checkDraws(t, rules(999, 999, one...), 100000, 1, nil, api.ErrState)
}

// TestDrawsErrors is for P12.1, P1 and R2: the errors, in their order.
func TestDrawsErrors(t *testing.T) {
	wrong := []api.MillRules{{}, rules(300, 500), rules(300, 500, manyDies(21, 900)...), rules(300, 500, manyDies(5000, 9000)...), rules(300, 500, 900, 900), rules(300, 500, 900, 800, 800), rules(300, 500, 800, 900), rules(300, 500, 900, 700, 800, 600), rules(300, 500, 900, 800, 700, 701)}
	for _, n := range outside(1, 999) {
		wrong = append(wrong, rules(n, 500, 900, 800), rules(300, n, 900, 800))
	}
	for _, n := range outside(1, 100000) {
		wrong = append(wrong, rules(300, 500, n), rules(300, 500, n, 900, 800), rules(300, 500, 900, n, 800), rules(300, 500, 900, 800, n))
	}
	for _, r := range wrong {
		for _, from := range append(outside(1, 100000), 900, 1000) {
			for _, to := range []int{800, 900, 1000, 100, -1, 0, from} {
				checkDraws(t, r, from, to, nil, api.ErrArg)
			}
		}
	}
	r := example()
	for _, from := range outside(1, 100000) {
		for _, to := range []int{600, 900, 100, 100001, -1, 0, from} {
			checkDraws(t, r, from, to, nil, api.ErrRange)
		}
	}
	for _, from := range []int{1, 499, 500, 777, 900, 901, 1000, 100000} {
		for _, to := range append(outside(1, 100000), 2, 499, 501, 899, 901, 1001, 99999) {
			if to != from {
				checkDraws(t, r, from, to, nil, api.ErrNone)
			}
		}
	}
	for _, from := range []int{1, 499, 100000} {
		for _, to := range r.Dies {
			checkDraws(t, r, from, to, nil, api.ErrState)
		}
	}
	// Each limit is reached.
	checkDraws(t, rules(1, 1, 100000, 1), 100000, 100000, nil, api.OK)
	checkDraws(t, rules(999, 999, 100000, 1), 1, 1, nil, api.OK)
	checkDraws(t, rules(999, 999, 100000, 1), 31, 1, drawn(1), api.OK)
	checkDraws(t, rules(999, 999, 100000, 3163), 100000, 3163, drawn(3163), api.OK)
}
