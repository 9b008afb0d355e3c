package mill_test

import (
	"slices"
	"testing"

	"acme/api"
	"acme/mill"
)

func checkRecall(t *testing.T, l []api.MillRun, lots []api.MillLot, c api.MillCause, want []int, wantE api.Errno) {
	t.Helper()
	if got, e := mill.Recall(l, lots, c); e != wantE || !slices.Equal(got, want) {
		t.Error(l, lots, c, got, e, want, wantE)
	}
}

// TestRecallExample is for P12.8: the chapter's runs, by hand.
func TestRecallExample(t *testing.T) {
	l, lots := works(), []api.MillLot{lot(1, 9, 10), lot(2, 0, 3), lot(1, 0, 4), lot(1, 15, 19), lot(1, 20, 30), lot(3, 0, 99), lot(1, 9, 10)}
	checkRecall(t, l, lots, coil(6), []int{0, 1, 3, 6}, api.OK)
	checkRecall(t, l, lots, coil(5), []int{0, 2, 6}, api.OK)
	checkRecall(t, l, lots, die(2), []int{0, 2, 3, 6}, api.OK)
	checkRecall(t, l, lots, die(3), []int{1}, api.OK)
	checkRecall(t, l, lots, die(5), nil, api.OK)
	checkRecall(t, l, lots, coil(2), nil, api.OK)
	checkRecall(t, l, lots, hour(1, 3), []int{2}, api.OK)
	checkRecall(t, l, lots, hour(2, 3), []int{1}, api.OK)
	checkRecall(t, l, lots, hour(1, 10), []int{0, 6}, api.OK)
	checkRecall(t, l, lots, hour(1, 25), nil, api.OK)
	checkRecall(t, l, lots, hour(3, 5), nil, api.OK)
	checkRecall(t, l, nil, coil(6), nil, api.OK)
	checkRecall(t, nil, lots, coil(6), nil, api.OK)
	checkRecall(t, []api.MillRun{run(0, 0, 0, 0, 0)}, full(lot(0, 0, 0), 2), coil(0), []int{0, 1}, api.OK)
	checkRecall(t, []api.MillRun{run(0, 0, 0, 0, 0)}, full(lot(0, 0, 0), 2), hour(0, 0), []int{0, 1}, api.OK)
}

// TestRecallSearch is for P12.8, against what lots have, hour by hour.
func TestRecallSearch(t *testing.T) {
	r := dice()
	for range 200 {
		l, lots := anyWorks(r), anyLots(r, 8)
		for _, c := range allCauses() {
			var want []int
			for number, made := range lots {
				if has(l, made, c) {
					want = append(want, number)
				}
			}
			checkRecall(t, l, lots, c, want, api.OK)
		}
	}
}

// wrongCauses returns causes that there cannot be.
func wrongCauses() []api.MillCause {
	l := []api.MillCause{{}, {Kind: 4}, {Kind: -1}, {Kind: 0, Machine: 1, Number: 9}, {Kind: 4, Number: 5}}
	for _, kind := range outside(1, 3) {
		l = append(l, api.MillCause{Kind: api.MillKind(kind)}, api.MillCause{Kind: api.MillKind(kind), Machine: 1, Number: 9})
	}
	for _, n := range outside(0, 1000) {
		l = append(l, coil(n), die(n), hour(n, 5))
	}
	for _, n := range outside(0, 100000) {
		l = append(l, hour(1, n))
	}
	for _, machine := range append(outside(0, 0), 1, 2, 1000) {
		l = append(l, api.MillCause{Kind: api.MillCoil, Machine: machine, Number: 4}, api.MillCause{Kind: api.MillDie, Machine: machine, Number: 5})
	}
	return l
}

// TestRecallErrors is for P12.8, P1 and R2: the errors, in their order, and each limit reached.
func TestRecallErrors(t *testing.T) {
	l, right := []api.MillRun{run(1, 0, 100000, 4, 5)}, []api.MillLot{lot(1, 0, 9), lot(1, 5, 8)}
	causes := append(wrongCauses(), coil(4), die(5), hour(1, 0))
	for _, c := range causes {
		for _, long := range [][]api.MillLot{full(lot(1, 0, 9), 41), full(lot(-1, 0, 0), 41), full(lot(1, 0, 9), 5000)} {
			checkRecall(t, l, long, c, nil, api.ErrLong)
		}
	}
	for _, c := range wrongCauses() {
		for _, lots := range [][]api.MillLot{nil, right, full(lot(1, 5, 4), 3), full(lot(1, 0, 100000), 3), full(lot(1, 0, 9), 40)} {
			checkRecall(t, l, lots, c, nil, api.ErrArg)
		}
	}
	for _, bad := range lotErrors() {
		for _, c := range []api.MillCause{coil(4), die(5), hour(1, 0), hour(2, 7), coil(1000)} {
			for _, some := range within(right, bad.lot) {
				checkRecall(t, l, some, c, nil, bad.want)
				checkRecall(t, l, append(some, lot(1, 0, 100000), lot(1, 5, 4)), c, nil, bad.want)
				checkRecall(t, l, append(some, lot(1, 5, 4), lot(1, 0, 100000)), c, nil, bad.want)
			}
		}
	}
	for _, c := range []api.MillCause{coil(0), coil(1000), die(0), die(1000), hour(0, 0), hour(1000, 100000), hour(0, 100000)} {
		checkRecall(t, l, right, c, nil, api.OK)
	}
	var all []int
	for number := range 40 {
		all = append(all, number)
	}
	checkRecall(t, l, full(lot(1, 0, 997), 40), hour(1, 997), all, api.OK)
}
