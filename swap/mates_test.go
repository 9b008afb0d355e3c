package swap_test

import (
	"slices"
	"testing"

	"acme/api"
	"acme/swap"
)

// checkMates reports what Mates does not return as it should.
func checkMates(t *testing.T, l []api.SwapStandard, depth api.Span, turns int, surely, possibly [][2]int) {
	t.Helper()
	gotSurely, gotPossibly, e := swap.Mates(l, depth, turns)
	if !slices.Equal(gotSurely, surely) || !slices.Equal(gotPossibly, possibly) || e != api.OK {
		t.Error(l, depth, turns, gotSurely, gotPossibly, e, surely, possibly)
	}
}

// TestMatesExample is for P8.4: the chapter's example 4, and its standards for other turns.
func TestMatesExample(t *testing.T) {
	all, own := [][2]int{{0, 0}, {0, 1}, {1, 0}, {1, 1}}, [][2]int{{0, 0}, {1, 1}}
	most := [][2]int{{0, 0}, {0, 1}, {1, 1}}
	for turns, want := range map[int][2][][2]int{
		1: {all, all}, 2: {most, all}, 3: {own, all}, 5: {own, all}, 6: {own, most}, 7: {own, own}, 100: {own, own},
	} {
		checkMates(t, examples(), usual(), turns, want[0], want[1])
	}
	checkMates(t, nil, usual(), 1, nil, nil)
	checkMates(t, examples()[:1], usual(), 100, own[:1], own[:1])
}

// TestMatesOwn is for P8.4: a standard is tried with itself, and need not go.
func TestMatesOwn(t *testing.T) {
	some := of(metric(), span(-1, 1), span(-1, 1))
	tight := of(metric(), just(1), just(0))
	checkMates(t, []api.SwapStandard{some}, usual(), 1, nil, [][2]int{{0, 0}})
	checkMates(t, []api.SwapStandard{tight}, usual(), 1, nil, nil)
	checkMates(t, []api.SwapStandard{tight, some}, usual(), 1, nil, [][2]int{{0, 1}, {1, 0}, {1, 1}})
	checkMates(t, []api.SwapStandard{tight, of(metric(), just(-1), just(1))}, usual(), 1, [][2]int{{0, 1}, {1, 0}, {1, 1}}, [][2]int{{0, 1}, {1, 0}, {1, 1}})
	checkMates(t, []api.SwapStandard{some, some}, usual(), 1, nil, [][2]int{{0, 0}, {0, 1}, {1, 0}, {1, 1}})
}

// TestMatesOrder is for P8.4: as many standards as there may be, in ascending order.
func TestMatesOrder(t *testing.T) {
	var one, many [][2]int
	for screws := range 12 {
		many = append(many, [2]int{screws, screws})
		for nuts := screws; nuts < 12; nuts++ {
			one = append(one, [2]int{screws, nuts})
		}
	}
	checkMates(t, rising(12), usual(), 1, one, one)
	checkMates(t, rising(12), usual(), 2, many, many)
	checkMates(t, rising(12), usual(), 100, many, many)
	falling := rising(3)
	slices.Reverse(falling)
	below := [][2]int{{0, 0}, {1, 0}, {1, 1}, {2, 0}, {2, 1}, {2, 2}}
	checkMates(t, falling, usual(), 1, below, below)
}

// TestMatesSearch is for P8.4: all screws and nuts of standards with few sizes.
func TestMatesSearch(t *testing.T) {
	r := dice()
	found := 0
	for range 1500 {
		l, depth, turns := anyStandards(r, 4), nearDepth(r), []int{1, 1, 2, 3, 20, 100}[r.IntN(6)]
		var surely, possibly [][2]int
		for i, a := range l {
			for k, b := range l {
				least, most := allTurns(a, b, depth)
				if least >= turns {
					surely = append(surely, [2]int{i, k})
				}
				if most >= turns {
					possibly = append(possibly, [2]int{i, k})
				}
			}
		}
		checkMates(t, l, depth, turns, surely, possibly)
		found += len(possibly) - len(surely)
	}
	if found < 50 {
		t.Error("few go possibly and not surely", found)
	}
}

// TestMatesErrors is for P8.4's errors, and P8.5's: the depth, and the turns.
func TestMatesErrors(t *testing.T) {
	fail := func(l []api.SwapStandard, depth api.Span, turns int) {
		t.Helper()
		if got := matesAnswer(swap.Mates(l, depth, turns)); got != failed(api.ErrRange) {
			t.Error("Mates", l, depth, turns, got)
		}
		if got := listAnswer(swap.Set(l, depth, turns)); got != failed(api.ErrRange) {
			t.Error("Set", l, depth, turns, got)
		}
		if got := listAnswer(swap.Stock(l, nil, depth, turns)); got != failed(api.ErrRange) {
			t.Error("Stock", l, depth, turns, got)
		}
	}
	for _, l := range goodLists() {
		for _, s := range badSpans(-200000, 200000) {
			fail(l, s, 1)
			fail(l, s, 0)
		}
		for _, n := range outside(1, 100) {
			fail(l, usual(), n)
		}
		for _, depth := range []api.Span{whole(), just(-200000), just(200000)} {
			for _, turns := range []int{1, 100} {
				if _, _, e := swap.Mates(l, depth, turns); e != api.OK {
					t.Error(l, depth, turns, e)
				}
			}
		}
	}
}
