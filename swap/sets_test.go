package swap_test

import (
	"slices"
	"testing"

	"acme/api"
	"acme/swap"
)

func checkSet(t *testing.T, l []api.SwapStandard, depth api.Span, turns int, want []int) {
	t.Helper()
	if got, e := swap.Set(l, depth, turns); !slices.Equal(got, want) || e != api.OK {
		t.Error(l, depth, turns, got, e, want)
	}
}

func checkStock(t *testing.T, l []api.SwapStandard, screws []int, depth api.Span, turns int, want []int) {
	t.Helper()
	if got, e := swap.Stock(l, screws, depth, turns); !slices.Equal(got, want) || e != api.OK {
		t.Error(l, screws, depth, turns, got, e, want)
	}
}

// pitches returns standards without leans, with these pitches, whose screws go for one turn into the nuts with the same pitch or a greater one, and for more into those with the same.
func pitches(numbers ...int) []api.SwapStandard {
	var l []api.SwapStandard
	for _, n := range numbers {
		l = append(l, of(metric(pitch(n), leans(0, 0)), just(0), just(0)))
	}
	return l
}

// TestSetExample is for P8.5: the chapter's example 4, and others that are worked out by hand.
func TestSetExample(t *testing.T) {
	checkSet(t, examples(), usual(), 1, []int{0, 1})
	checkSet(t, examples(), usual(), 2, []int{0})
	checkSet(t, examples(), usual(), 100, []int{0})
	checkSet(t, nil, usual(), 1, nil)
	checkSet(t, rising(12), usual(), 1, []int{0})
	checkSet(t, slices.Repeat(examples()[:1], 12), usual(), 100, []int{0, 1, 2, 3, 4, 5, 6, 7, 8, 9, 10, 11})
	// The largest set comes first, then the smallest list.
	checkSet(t, pitches(100, 200, 300, 200, 300), usual(), 1, []int{1, 3})
	checkSet(t, pitches(100, 200, 300, 300, 200, 300), usual(), 1, []int{2, 3, 5})
	checkSet(t, pitches(100, 200, 300, 300, 200, 300, 100, 100), usual(), 50, []int{0, 6, 7})
	checkSet(t, pitches(300, 200, 100, 200, 100, 300), usual(), 50, []int{0, 5})
	// It is not enough that screws go one way, and not that they go around.
	tight := of(metric(), just(1), just(0))
	checkSet(t, []api.SwapStandard{tight}, usual(), 1, nil)
	checkSet(t, []api.SwapStandard{tight, tight, tight}, usual(), 1, nil)
	checkSet(t, []api.SwapStandard{tight, of(metric(), just(-1), just(1))}, usual(), 1, []int{1})
	checkSet(t, []api.SwapStandard{of(metric(), just(0), just(0)), of(metric(), just(0), just(5)), of(metric(), just(5), just(5))}, usual(), 1, []int{0, 1})
	// What goes just possibly does not count.
	checkSet(t, []api.SwapStandard{of(metric(), span(-1, 1), span(-1, 1)), of(metric(), just(0), just(0))}, usual(), 1, []int{1})
}

// TestStockExample is for P8.6: the chapter's example 4, and others that are worked out by hand.
func TestStockExample(t *testing.T) {
	checkStock(t, examples(), []int{0, 1}, usual(), 2, []int{1})
	checkStock(t, examples(), []int{0, 1}, usual(), 1, []int{0})
	checkStock(t, examples(), []int{0, 1}, usual(), 3, []int{0, 1})
	checkStock(t, examples(), []int{1}, usual(), 3, []int{1})
	checkStock(t, examples(), []int{0}, usual(), 2, []int{0})
	checkStock(t, examples(), nil, usual(), 1, nil)
	checkStock(t, nil, nil, usual(), 100, nil)
	checkStock(t, rising(12), []int{3, 7, 5}, usual(), 1, []int{7})
	checkStock(t, rising(12), []int{7, 3, 5, 3, 3}, usual(), 2, []int{3, 5, 7})
	checkStock(t, rising(12), []int{11, 10, 9, 8, 7, 6, 5, 4, 3, 2, 1, 0}, usual(), 100, []int{0, 1, 2, 3, 4, 5, 6, 7, 8, 9, 10, 11})
	checkStock(t, rising(12), slices.Repeat([]int{0}, 50), usual(), 1, []int{0})
	// The fewest come first, then the smallest list.
	checkStock(t, pitches(300, 100, 200, 300), []int{1, 2}, usual(), 1, []int{0})
	checkStock(t, pitches(100, 200, 100, 200), []int{0, 2, 3}, usual(), 9, []int{0, 1})
	checkStock(t, pitches(200, 100, 300), []int{1, 0}, usual(), 1, []int{0})
	// A standard need not be among those whose screws there are.
	tight := of(metric(), just(1), just(0))
	checkStock(t, []api.SwapStandard{tight, of(metric(), just(-1), just(1))}, []int{0}, usual(), 1, []int{1})
}

// TestStockNone is for P8.6: screws into whose nuts nothing surely goes.
func TestStockNone(t *testing.T) {
	tight, some := of(metric(), just(1), just(0)), of(metric(), span(-1, 1), span(-1, 1))
	left := of(metric(leftHand()), just(0), just(0))
	for i, c := range []struct {
		l      []api.SwapStandard
		screws []int
	}{
		{[]api.SwapStandard{tight}, []int{0}}, {[]api.SwapStandard{some}, []int{0}}, {[]api.SwapStandard{left, tight}, []int{1}}, {[]api.SwapStandard{left, tight}, []int{0, 1}}, {[]api.SwapStandard{left, tight}, []int{0, 0, 0, 1}},
	} {
		if got := listAnswer(swap.Stock(c.l, c.screws, usual(), 1)); got != failed(api.ErrState) {
			t.Error(i, got)
		}
	}
	checkStock(t, []api.SwapStandard{left, tight}, []int{0}, usual(), 1, []int{0})
}

// TestStockErrors is for P8.6's errors and their order: as many screws as there may be, and one more, screws that there are not, the depth and the turns.
func TestStockErrors(t *testing.T) {
	fail := func(l []api.SwapStandard, screws []int, depth api.Span, turns int, want api.Errno) {
		t.Helper()
		if got := listAnswer(swap.Stock(l, screws, depth, turns)); got != failed(want) {
			t.Error(len(l), screws, depth, turns, got, want)
		}
	}
	for _, l := range goodLists() {
		for _, screws := range [][]int{make([]int, 51), make([]int, 5000), slices.Repeat([]int{-1}, 51)} {
			fail(l, screws, usual(), 1, api.ErrLong)
			fail(l, screws, span(1, 0), 0, api.ErrLong)
		}
		for _, n := range outside(0, len(l)-1) {
			fail(l, []int{n}, usual(), 1, api.ErrNone)
			fail(l, slices.Repeat([]int{n}, 50), span(1, 0), 101, api.ErrNone)
			if len(l) > 0 {
				fail(l, []int{0, n}, usual(), 0, api.ErrNone)
				fail(l, append(make([]int, 49), n), span(-200001, 0), 1, api.ErrNone)
			}
		}
	}
	// What is out of its limits comes before what there is not.
	tight := []api.SwapStandard{of(metric(), just(1), just(0))}
	for _, s := range badSpans(-200000, 200000) {
		fail(tight, []int{0}, s, 1, api.ErrRange)
	}
	for _, n := range outside(1, 100) {
		fail(tight, []int{0}, usual(), n, api.ErrRange)
	}
	fail(tight, []int{0}, usual(), 100, api.ErrState)
	fail(tight, make([]int, 50), usual(), 1, api.ErrState)
}

// bestSet returns what Set must, by looking at all sets.
func bestSet(told [][]bool) []int {
	var best []int
	for _, set := range subsets(len(told)) {
		all := true
		for _, i := range set {
			for _, k := range set {
				all = all && told[i][k]
			}
		}
		if all && (len(set) > len(best) || len(set) == len(best) && slices.Compare(set, best) < 0) {
			best = set
		}
	}
	return best
}

// bestStock returns what Stock must, by looking at all sets, and whether there is one.
func bestStock(told [][]bool, screws []int) (best []int, found bool) {
	for _, set := range subsets(len(told)) {
		all := true
		for _, i := range screws {
			some := false
			for _, k := range set {
				some = some || told[i][k]
			}
			all = all && some
		}
		if all && (!found || len(set) < len(best) || len(set) == len(best) && slices.Compare(set, best) < 0) {
			best, found = set, true
		}
	}
	return best, found
}

// TestSetsSearch is for P8.5 and P8.6: all sets of up to 12 standards.
func TestSetsSearch(t *testing.T) {
	r := dice()
	long, states := map[int]int{}, 0
	for range 300 {
		l, depth, turns := anyStandards(r, 12), nearDepth(r), []int{1, 1, 2, 3, 20, 100}[r.IntN(6)]
		told := surelyTold(l, depth, turns)
		checkSet(t, l, depth, turns, bestSet(told))
		var screws []int
		for range r.IntN(8) {
			screws = append(screws, r.IntN(len(l)))
		}
		want, found := bestStock(told, screws)
		long[len(want)]++
		if found {
			checkStock(t, l, screws, depth, turns, want)
			continue
		}
		states++
		if got := listAnswer(swap.Stock(l, screws, depth, turns)); got != failed(api.ErrState) {
			t.Error(l, screws, depth, turns, got)
		}
	}
	if long[2] < 20 || long[3] < 5 || states < 20 {
		t.Error("few have such results", long, states)
	}
}
