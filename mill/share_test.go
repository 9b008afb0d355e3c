package mill_test

import (
	"slices"
	"testing"

	"acme/api"
	"acme/mill"
)

func checkShare(t *testing.T, coils, needs, want []int, wantE api.Errno) {
	t.Helper()
	if got, e := mill.Share(coils, needs); e != wantE || !slices.Equal(got, want) {
		t.Error(coils, needs, got, e, want, wantE)
	}
}

// TestShareExample is for P12.4: the chapter's example, and others by hand.
func TestShareExample(t *testing.T) {
	checkShare(t, []int{100, 60, 50}, []int{40, 30, 50, 30}, []int{0, 0, 1, 0}, api.OK)
	checkShare(t, []int{100, 49, 50}, []int{40, 30, 50, 30}, []int{0, 0, 2, 0}, api.OK)
	checkShare(t, []int{99, 50, 50}, []int{40, 30, 50, 30}, []int{0, 0, 1, 2}, api.OK)
	// One coil is enough, though it is not the first one.
	checkShare(t, []int{10, 20}, []int{10, 10}, []int{1, 1}, api.OK)
	checkShare(t, []int{10, 20, 20}, []int{10, 10}, []int{1, 1}, api.OK)
	checkShare(t, []int{10, 19, 20}, []int{10, 10}, []int{2, 2}, api.OK)
	checkShare(t, []int{10, 19, 19}, []int{10, 10}, []int{0, 1}, api.OK)
	// The first orders decide, whatever is left over.
	checkShare(t, []int{30, 30}, []int{10, 20, 20, 10}, []int{0, 0, 1, 1}, api.OK)
	checkShare(t, []int{20, 40}, []int{10, 20, 20, 10}, []int{0, 1, 1, 0}, api.OK)
	checkShare(t, []int{25, 35}, []int{10, 20, 20, 10}, nil, api.ErrNone)
	checkShare(t, []int{35, 25}, []int{10, 20, 20, 5}, []int{0, 0, 1, 0}, api.OK)
	// No order is made of two coils, and none is left out.
	checkShare(t, []int{10, 10}, []int{11}, nil, api.ErrNone)
	checkShare(t, []int{10, 10}, []int{6, 6, 6}, nil, api.ErrNone)
	checkShare(t, nil, []int{1}, nil, api.ErrNone)
	checkShare(t, nil, nil, nil, api.OK)
	checkShare(t, []int{1, 2, 3}, nil, nil, api.OK)
	checkShare(t, []int{1, 2, 3, 4, 5, 6, 7, 8}, nil, nil, api.OK)
}

// allLists returns all lists of so many numbers below a limit, in order.
func allLists(below, count int) [][]int {
	if count == 0 {
		return [][]int{nil}
	}
	var all [][]int
	for _, list := range allLists(below, count-1) {
		for number := range below {
			all = append(all, append(slices.Clone(list), number))
		}
	}
	return all
}

// bestShare returns by the chapter's words how coils are shared, by looking at all lists.
func bestShare(coils, needs []int) (best []int, found bool) {
	for _, list := range allLists(len(coils), len(needs)) {
		// An earlier list is smaller.
		if isShared(coils, needs, list) && (!found || usedCoils(list) < usedCoils(best)) {
			best, found = list, true
		}
	}
	return best, found
}

// TestShareSearch is for P12.4, against all lists of few coils and orders.
func TestShareSearch(t *testing.T) {
	r := dice()
	counts := map[bool]int{}
	for range 3000 {
		var coils, needs []int
		for range r.IntN(5) {
			coils = append(coils, 1+r.IntN(20))
		}
		for range r.IntN(6) {
			needs = append(needs, 1+r.IntN([]int{5, 12}[r.IntN(2)]))
		}
		best, found := bestShare(coils, needs)
		counts[found]++
		if found {
			checkShare(t, coils, needs, best, api.OK)
		} else {
			checkShare(t, coils, needs, nil, api.ErrNone)
		}
	}
	if counts[true] < 500 || counts[false] < 500 {
		t.Error(counts)
	}
}

// TestShareFull is for P12.4 and R7: as many coils and orders as there may be, as long as they may be.
func TestShareFull(t *testing.T) {
	most := api.MaxLength
	all := slices.Repeat([]int{most}, 8)
	checkShare(t, all, all, []int{0, 1, 2, 3, 4, 5, 6, 7}, api.OK)
	checkShare(t, all, []int{most, most, most, most, most, most, most, 1}, []int{0, 1, 2, 3, 4, 5, 6, 7}, api.OK)
	checkShare(t, append(slices.Clone(all[:7]), 1), []int{1, most, most, most, most, most, most, most}, []int{7, 0, 1, 2, 3, 4, 5, 6}, api.OK)
	checkShare(t, append(slices.Clone(all[:7]), most-1), all, nil, api.ErrNone)
	checkShare(t, all, slices.Repeat([]int{1}, 8), make([]int, 8), api.OK)
	checkShare(t, []int{1, 2, 3, 4, 5, 6, 7, 8}, []int{8, 7, 6, 5, 4, 3, 2, 1}, []int{7, 6, 5, 4, 3, 2, 1, 0}, api.OK)
	checkShare(t, []int{7, 7, 7, 7, 7, 7, 7, 28}, []int{7, 7, 7, 7, 7, 7, 7, 7}, []int{0, 1, 2, 3, 7, 7, 7, 7}, api.OK)
	checkShare(t, []int{7, 7, 7, 7, 7, 7, 28, 28}, []int{7, 7, 7, 7, 7, 7, 7, 7}, []int{6, 6, 6, 6, 7, 7, 7, 7}, api.OK)
	// Just one way: 50 and 50, 60 and 40, 70 and 30, 80 and 20.
	checkShare(t, []int{100, 100, 100, 100}, []int{50, 60, 70, 80, 20, 30, 40, 50}, []int{0, 1, 2, 3, 3, 2, 1, 0}, api.OK)
	checkShare(t, []int{1, 100, 1, 100, 1, 100, 1, 100}, []int{50, 60, 70, 80, 20, 30, 40, 50}, []int{1, 3, 5, 7, 7, 5, 3, 1}, api.OK)
	checkShare(t, []int{1, 100, 1, 100, 1, 100, 1, 99}, []int{50, 60, 70, 80, 20, 30, 40, 50}, nil, api.ErrNone)
}

// TestShareErrors is for P12.4, P1 and R2: the errors, in their order.
func TestShareErrors(t *testing.T) {
	wrong := [][]int{}
	for _, n := range outside(1, api.MaxLength) {
		wrong = append(wrong, []int{n}, []int{n, 5}, []int{5, n}, append(slices.Repeat([]int{1}, 7), n))
	}
	long := [][]int{slices.Repeat([]int{1}, 9), make([]int, 9), make([]int, 5000), append(slices.Repeat([]int{1}, 8), -1)}
	right := [][]int{nil, {1}, {5, 6, 7}, slices.Repeat([]int{api.MaxLength}, 8)}
	for _, l := range long {
		for _, other := range slices.Concat(wrong, long, right) {
			checkShare(t, l, other, nil, api.ErrLong)
			checkShare(t, other, l, nil, api.ErrLong)
		}
	}
	for _, l := range wrong {
		for _, other := range append(wrong, right...) {
			checkShare(t, l, other, nil, api.ErrArg)
			checkShare(t, other, l, nil, api.ErrArg)
		}
	}
	checkShare(t, []int{api.MaxLength - 1}, []int{api.MaxLength}, nil, api.ErrNone)
	checkShare(t, []int{api.MaxLength}, []int{api.MaxLength}, []int{0}, api.OK)
}
