package swap_test

import (
	"slices"
	"testing"

	"acme/api"
	"acme/fit"
	"acme/swap"
)

// turnsOf returns what Turns returns of valid arguments.
func turnsOf(t *testing.T, screw, nut api.ThreadForm, c, d int, depth api.Span) int {
	t.Helper()
	turns, e := swap.Turns(screw, nut, c, d, depth)
	if e != api.OK {
		t.Fatal(screw, nut, c, d, depth, e)
	}
	return turns
}

// known returns the thread of so many turns whose flanks are just where those of a screw or nut are; its flanks must be at integers of units.
func known(f api.ThreadForm, size, turns int) api.FitThread {
	t := api.FitThread{Left: f.Left, Right: f.Right}
	for turn := range turns {
		left, right := flanks(f, size, turn, 0)
		t.Turns = append(t.Turns, api.FitTurn{Left: left / 1000, Right: right / 1000})
	}
	return t
}

// TestToTheTurn is for P8.9: chapter 3 says of threads whose flanks are known for how many turns they go.
func TestToTheTurn(t *testing.T) {
	r := dice()
	// With such leans and pitches, flanks of sizes that are multiples of 4 are at integers of units.
	all := []int{0, 250, 500, 1000, 1500}
	found := map[bool]int{}
	for range 2000 {
		screw := metric(pitch(4000+4*r.IntN(6)), leans(all[r.IntN(5)], all[r.IntN(5)]), heights(60, 60))
		nut := metric(pitch(4000+4*r.IntN(6)), leans(all[r.IntN(5)], all[r.IntN(5)]), heights(60, 60))
		c, d, depth := 4*r.IntN(40)-140, 4*r.IntN(60)-100, part(r, span(-60, 60))
		turns := turnsOf(t, screw, nut, c, d, depth)
		found[turns > 0 && turns < 60]++
		for _, n := range []int{1, 2, turns - 1, turns, turns + 1, turns + 5, 60} {
			if n < 1 || n > 60 {
				continue
			}
			_, e := fit.Shift(known(screw, c, n), known(nut, d, n), 0, 0, n, depth)
			if n <= turns && e != api.OK || n > turns && e != api.ErrState {
				t.Fatal(screw, nut, c, d, depth, n, turns, e)
			}
		}
	}
	if found[true] < 500 || found[false] < 500 {
		t.Error("few go for some turns", found)
	}
}

// TestSmallerAndGreater is for P8.10.
func TestSmallerAndGreater(t *testing.T) {
	r := dice()
	more := 0
	for range 3000 {
		screw, nut, depth := anyForm(r), anyForm(r), part(r, span(-100, 100))
		c, d := from(r, span(-300, 50)), from(r, span(-50, 300))
		turns := turnsOf(t, screw, nut, c, d, depth)
		if screw.Pitch == nut.Pitch && turns != 0 && turns != 100 {
			t.Fatal("the same pitch", screw, nut, c, d, depth, turns)
		}
		for _, again := range []int{
			turnsOf(t, screw, nut, c-1, d, depth), turnsOf(t, screw, nut, from(r, span(-10000, c)), d, depth),
			turnsOf(t, screw, nut, c, d+1, depth), turnsOf(t, screw, nut, c, from(r, span(d, 10000)), depth),
			turnsOf(t, screw, nut, c, d, part(r, depth)), turnsOf(t, screw, nut, c, d, just(depth.Low)), turnsOf(t, screw, nut, c, d, just(depth.High)),
		} {
			if again < turns {
				t.Fatal(screw, nut, c, d, depth, turns, again)
			}
			if again > turns {
				more++
			}
		}
	}
	if more < 2000 {
		t.Error("few go for more turns", more)
	}
}

// TestToldJustSo is for P8.11: any screw and nut of all pairs, for all turns, with no pair lost for fewer of them.
func TestToldJustSo(t *testing.T) {
	r := dice()
	for range 100 {
		l, depth := anyStandards(r, 6), part(r, span(-100, 100))
		for i := range l {
			l[i].Screw.Low, l[i].Nut.High = l[i].Screw.Low-r.IntN(50), l[i].Nut.High+r.IntN(50)
		}
		var before, beforePossibly [][2]int
		for turns := 100; turns > 0; turns-- {
			surely, possibly, e := swap.Mates(l, depth, turns)
			if e != api.OK {
				t.Fatal(l, depth, turns, e)
			}
			for _, lists := range [][2][][2]int{{surely, possibly}, {before, surely}, {beforePossibly, possibly}} {
				for _, pair := range lists[0] {
					if !slices.Contains(lists[1], pair) {
						t.Fatal(l, depth, turns, pair, lists)
					}
				}
			}
			before, beforePossibly = surely, possibly
			if turns%7 > 1 {
				continue
			}
			for i, a := range l {
				for k, b := range l {
					n := turnsOf(t, a.Form, b.Form, from(r, a.Screw), from(r, b.Nut), depth)
					pair := [2]int{i, k}
					if n < turns && slices.Contains(surely, pair) || n >= turns && !slices.Contains(possibly, pair) {
						t.Fatal(l, depth, turns, pair, n)
					}
				}
			}
		}
	}
}

// servedBy reports whether all screws go into all nuts of some standard of a set.
func servedBy(told [][]bool, screws, set []int) bool {
	for _, screw := range screws {
		if !slices.ContainsFunc(set, func(nut int) bool { return told[screw][nut] }) {
			return false
		}
	}
	return true
}

// TestSets is for P8.12.
func TestSets(t *testing.T) {
	r := dice()
	for range 300 {
		l, depth, turns := anyStandards(r, 12), part(r, span(-100, 100)), 1+r.IntN(5)
		told := surelyTold(l, depth, turns)
		set, e := swap.Set(l, depth, turns)
		if e != api.OK {
			t.Fatal(l, depth, turns, e)
		}
		together := func(numbers ...int) bool {
			apart := func(i int) bool {
				return slices.ContainsFunc(numbers, func(k int) bool { return !told[i][k] })
			}
			return !slices.ContainsFunc(numbers, apart)
		}
		for n := range l {
			if together(append(slices.Clone(set), n)...) != slices.Contains(set, n) {
				t.Fatal(l, depth, turns, set, n)
			}
		}
		var screws []int
		for range 1 + r.IntN(5) {
			screws = append(screws, r.IntN(len(l)))
		}
		stock, e := swap.Stock(l, screws, depth, turns)
		if e == api.ErrState {
			continue
		}
		if e != api.OK || !servedBy(told, screws, stock) {
			t.Fatal(l, screws, depth, turns, stock, e)
		}
		for i := range stock {
			if servedBy(told, screws, slices.Delete(slices.Clone(stock), i, i+1)) {
				t.Fatal("one of them can be left out", l, screws, depth, turns, stock, i)
			}
		}
	}
}

// narrower returns a lot of which more is known.
func narrower(x api.SwapLot, c func(s api.Span) api.Span) api.SwapLot {
	x.Years, x.Pitch, x.Pieces = c(x.Years), c(x.Pitch), slices.Clone(x.Pieces)
	for i, s := range x.Pieces {
		x.Pieces[i] = c(s)
	}
	return x
}

// TestTheLot is for P8.13: a lot that was truly made by a standard, and one of which more is known.
func TestTheLot(t *testing.T) {
	r := dice()
	fewer := 0
	for range 2000 {
		l := anyStandards(r, 12)
		truly := r.IntN(len(l))
		s := l[truly]
		around := func(n int, wide, low, high int) api.Span {
			return span(max(n-r.IntN(wide), low), min(n+r.IntN(wide), high))
		}
		x := api.SwapLot{Country: []int{s.Country, api.SwapAny}[r.IntN(2)], Years: around(from(r, s.Years), 20, 0, 3000), Pitch: around(s.Form.Pitch, 10, 0, 10000000)}
		for range r.IntN(4) {
			x.Pieces = append(x.Pieces, around(from(r, s.Screw), 20, -10000, 10000))
		}
		got, e := swap.Lot(l, x)
		if e != api.OK || !slices.Contains(got, truly) {
			t.Fatal(l, x, truly, got, e)
		}
		more := narrower(x, func(s api.Span) api.Span { return part(r, s) })
		longer := narrower(x, func(s api.Span) api.Span { return s })
		longer.Pieces = append(longer.Pieces, near(r))
		for _, y := range []api.SwapLot{more, longer} {
			less, e := swap.Lot(l, y)
			if e != api.OK {
				t.Fatal(l, y, e)
			}
			for _, n := range less {
				if !slices.Contains(got, n) {
					t.Fatal(l, x, y, got, less)
				}
			}
			if len(less) < len(got) {
				fewer++
			}
		}
	}
	if fewer < 500 {
		t.Error("few have fewer standards", fewer)
	}
}
