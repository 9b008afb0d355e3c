package mill_test

import (
	"slices"
	"testing"

	"acme/api"
	"acme/mill"
)

func checkCulprits(t *testing.T, l []api.MillRun, bad, good []api.MillLot, want []api.MillCause, wantE api.Errno) {
	t.Helper()
	if got, e := mill.Culprits(l, bad, good); e != wantE || !slices.Equal(got, want) {
		t.Error(l, bad, good, got, e, want, wantE)
	}
}

// TestCulpritsExample is for P12.7: the chapter's example, and others by hand.
func TestCulpritsExample(t *testing.T) {
	l := works()
	bad := []api.MillLot{lot(1, 9, 10), lot(2, 0, 3)}
	checkCulprits(t, l, bad, nil, []api.MillCause{coil(6)}, api.OK)
	checkCulprits(t, l, bad, []api.MillLot{lot(1, 15, 19)}, nil, api.OK)
	checkCulprits(t, l, bad, []api.MillLot{lot(1, 0, 8)}, []api.MillCause{coil(6)}, api.OK)
	checkCulprits(t, l, bad[:1], nil, []api.MillCause{coil(5), coil(6), die(2), hour(1, 9), hour(1, 10)}, api.OK)
	checkCulprits(t, l, bad[:1], []api.MillLot{lot(1, 15, 19)}, []api.MillCause{coil(5), hour(1, 9), hour(1, 10)}, api.OK)
	checkCulprits(t, l, bad[:1], []api.MillLot{lot(1, 15, 19), lot(1, 0, 8)}, []api.MillCause{hour(1, 9), hour(1, 10)}, api.OK)
	checkCulprits(t, l, bad[:1], []api.MillLot{lot(2, 0, 19)}, []api.MillCause{coil(5), die(2), hour(1, 9), hour(1, 10)}, api.OK)
	checkCulprits(t, l, bad[:1], bad[:1], nil, api.OK)
	// The same hour of two machines is not the same cause.
	checkCulprits(t, l, []api.MillLot{lot(1, 0, 3), lot(2, 0, 3)}, nil, nil, api.OK)
	checkCulprits(t, l, []api.MillLot{lot(1, 0, 3), lot(1, 3, 5)}, nil, []api.MillCause{coil(5), die(2), hour(1, 3)}, api.OK)
	// Nothing was made of a lot.
	checkCulprits(t, l, []api.MillLot{lot(1, 9, 10), lot(1, 20, 30)}, nil, nil, api.OK)
	checkCulprits(t, l, bad, []api.MillLot{lot(1, 20, 30)}, []api.MillCause{coil(6)}, api.OK)
	checkCulprits(t, nil, bad, bad, nil, api.OK)
}

// TestCulpritsSearch is for P12.7, against all causes that there can be.
func TestCulpritsSearch(t *testing.T) {
	r := dice()
	found := 0
	for range 2000 {
		l, bad, good := anyWorks(r), anyLots(r, 3), anyLots(r, 3)
		if len(bad) == 0 {
			checkCulprits(t, l, bad, good, nil, api.ErrNone)
			continue
		}
		want := culprits(l, bad, good)
		checkCulprits(t, l, bad, good, want, api.OK)
		if len(want) > 0 {
			found++
		}
	}
	if found < 200 {
		t.Error(found)
	}
}

// full returns so many lots.
func full(made api.MillLot, count int) []api.MillLot {
	return slices.Repeat([]api.MillLot{made}, count)
}

// within returns lots with one of them at each place in turn.
func within(lots []api.MillLot, one api.MillLot) [][]api.MillLot {
	var l [][]api.MillLot
	for place := range len(lots) + 1 {
		l = append(l, slices.Insert(slices.Clone(lots), place, one))
	}
	return l
}

// TestCulpritsFull is for P12.7 and R7: as many lots as there may be, with as many causes as they may have.
func TestCulpritsFull(t *testing.T) {
	l := []api.MillRun{run(1, 0, 50000, 4, 5), run(1, 50001, 100000, 4, 6)}
	all := append([]api.MillCause{coil(4), die(5)}, hours(1, 7, 1004)...)
	checkCulprits(t, l, full(lot(1, 7, 1004), 40), full(lot(2, 0, 100000), 40), all, api.OK)
	checkCulprits(t, l, full(lot(1, 7, 1004), 40), full(lot(1, 60000, 60997), 40), all[1:], api.OK)
}

// lotError is a lot and its error.
type lotError struct {
	lot  api.MillLot
	want api.Errno
}

// lotErrors returns lots with errors, if a machine ran with one coil and one die from 0 to 100000.
func lotErrors() []lotError {
	var l []lotError
	for _, made := range wrongLots() {
		l = append(l, lotError{made, api.ErrArg})
	}
	for _, made := range longLots() {
		l = append(l, lotError{made, api.ErrLong})
	}
	return l
}

// TestCulpritsErrors is for P12.7, P1 and R2: the errors, in their order.
func TestCulpritsErrors(t *testing.T) {
	l, right := []api.MillRun{run(1, 0, 100000, 4, 5)}, []api.MillLot{lot(1, 0, 9), lot(1, 5, 8)}
	for _, other := range [][]api.MillLot{nil, right, full(lot(1, 5, 4), 3), full(lot(1, 0, 9), 40), full(lot(1, 0, 9), 41), full(lot(-1, 0, 0), 5000)} {
		for _, long := range [][]api.MillLot{full(lot(1, 0, 9), 41), full(lot(-1, 0, 0), 41), full(lot(1, 0, 9), 5000)} {
			checkCulprits(t, l, long, other, nil, api.ErrLong)
			checkCulprits(t, l, other, long, nil, api.ErrLong)
		}
	}
	for _, good := range [][]api.MillLot{nil, {}, right, full(lot(1, 5, 4), 40), full(lot(1, 0, 100000), 3)} {
		checkCulprits(t, l, nil, good, nil, api.ErrNone)
		checkCulprits(t, l, []api.MillLot{}, good, nil, api.ErrNone)
	}
	long, wrong := lot(1, 0, 100000), lot(1, 5, 4)
	for _, c := range lotErrors() {
		for _, some := range within(right, c.lot) {
			checkCulprits(t, l, some, right, nil, c.want)
			checkCulprits(t, l, right, some, nil, c.want)
			// Of several lots the first one with an error decides, the bad ones first.
			for _, later := range []api.MillLot{long, wrong} {
				checkCulprits(t, l, append(some, later), nil, nil, c.want)
				checkCulprits(t, l, some, full(later, 40), nil, c.want)
				checkCulprits(t, l, right, append(some, later), nil, c.want)
			}
		}
	}
	checkCulprits(t, l, full(lot(1, 0, 9), 40), full(lot(1, 5, 9), 40), hours(1, 0, 4), api.OK)
}

// TestCulpritsAfter is for P12.7: the causes that are left do not change those of the lots.
func TestCulpritsAfter(t *testing.T) {
	l, lots := works(), []api.MillLot{lot(1, 9, 10), lot(2, 0, 3)}
	checkCulprits(t, l, lots, nil, []api.MillCause{coil(6)}, api.OK)
	got, e := mill.Causes(l, lots[0])
	if want := []api.MillCause{coil(5), coil(6), die(2), hour(1, 9), hour(1, 10)}; !slices.Equal(got, want) || e != api.OK {
		t.Error(got, e)
	}
}
