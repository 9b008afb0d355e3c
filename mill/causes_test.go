package mill_test

import (
	"slices"
	"testing"

	"acme/api"
	"acme/mill"
)

func checkCauses(t *testing.T, l []api.MillRun, made api.MillLot, want []api.MillCause, wantE api.Errno) {
	t.Helper()
	if got, e := mill.Causes(l, made); e != wantE || !slices.Equal(got, want) {
		t.Error(l, made, got, e, want, wantE)
	}
}

// TestCausesExample is for P12.6: the chapter's example, and others by hand.
func TestCausesExample(t *testing.T) {
	l := works()
	checkCauses(t, l, lot(1, 9, 10), []api.MillCause{coil(5), coil(6), die(2), hour(1, 9), hour(1, 10)}, api.OK)
	checkCauses(t, l, lot(1, 9, 9), []api.MillCause{coil(5), die(2), hour(1, 9)}, api.OK)
	checkCauses(t, l, lot(1, 10, 10), []api.MillCause{coil(6), die(2), hour(1, 10)}, api.OK)
	checkCauses(t, l, lot(2, 0, 3), append([]api.MillCause{coil(6), die(3)}, hours(2, 0, 3)...), api.OK)
	// In an hour without a run nothing is made.
	checkCauses(t, l, lot(1, 18, 25), []api.MillCause{coil(6), die(2), hour(1, 18), hour(1, 19)}, api.OK)
	checkCauses(t, l, lot(1, 20, 100000), nil, api.OK)
	checkCauses(t, l, lot(0, 0, 100000), nil, api.OK)
	checkCauses(t, l, lot(3, 5, 5), nil, api.OK)
	checkCauses(t, l, lot(1, 0, 100000), append([]api.MillCause{coil(5), coil(6), die(2)}, hours(1, 0, 19)...), api.OK)
	checkCauses(t, nil, lot(1, 9, 10), nil, api.OK)
	// Runs in another order, with the same coil twice.
	l = []api.MillRun{run(7, 20, 21, 4, 9), run(7, 0, 1, 3, 1), run(7, 10, 10, 4, 0), run(8, 5, 5, 1, 1)}
	checkCauses(t, l, lot(7, 1, 20), []api.MillCause{coil(3), coil(4), die(0), die(1), die(9), hour(7, 1), hour(7, 10), hour(7, 20)}, api.OK)
	checkCauses(t, l, lot(7, 2, 9), nil, api.OK)
	checkCauses(t, []api.MillRun{run(0, 0, 0, 0, 0)}, lot(0, 0, 0), []api.MillCause{coil(0), die(0), hour(0, 0)}, api.OK)
	checkCauses(t, []api.MillRun{run(1000, 100000, 100000, 1000, 1000)}, lot(1000, 0, 100000), []api.MillCause{coil(1000), die(1000), hour(1000, 100000)}, api.OK)
}

// TestCausesSearch is for P12.6, against all causes that there can be.
func TestCausesSearch(t *testing.T) {
	r := dice()
	for range 1000 {
		l := anyWorks(r)
		for _, made := range anyLots(r, 5) {
			checkCauses(t, l, made, culprits(l, []api.MillLot{made}, nil), api.OK)
		}
	}
}

// longLots returns lots with more than 1000 causes, of a machine that ran with one coil and one die from 0 to 100000.
func longLots() []api.MillLot {
	return []api.MillLot{lot(1, 0, 998), lot(1, 5, 1003), lot(1, 0, 100000), lot(1, 99002, 100000)}
}

// TestCausesLong is for P12.6: as many causes as a lot may have, and one more.
func TestCausesLong(t *testing.T) {
	l := []api.MillRun{run(1, 0, 100000, 4, 5)}
	checkCauses(t, l, lot(1, 0, 997), append([]api.MillCause{coil(4), die(5)}, hours(1, 0, 997)...), api.OK)
	checkCauses(t, l, lot(1, 99003, 100000), append([]api.MillCause{coil(4), die(5)}, hours(1, 99003, 100000)...), api.OK)
	for _, made := range longLots() {
		checkCauses(t, l, made, nil, api.ErrLong)
	}
	// Causes are counted, not hours or runs: 60 coils and dies, and 14 or 15 hours of each run.
	parted := shifts(60, 100)
	for number := range parted {
		parted[number].To = parted[number].From + 13 + number/40
	}
	got, e := mill.Causes(parted, lot(1, 0, 100000))
	if len(got) != 60+60+40*14+20*15 || e != api.OK {
		t.Error(len(got), e)
	}
	for number := range parted[:20] {
		parted[number].To++
	}
	if got, e = mill.Causes(parted, lot(1, 0, 100000)); len(got) != 1000 || e != api.OK {
		t.Error(len(got), e)
	}
	parted[59].To++
	checkCauses(t, parted, lot(1, 0, 100000), nil, api.ErrLong)
	parted[0].Coil = 59
	if got, e = mill.Causes(parted, lot(1, 0, 100000)); len(got) != 1000 || e != api.OK {
		t.Error(len(got), e)
	}
	checkCauses(t, parted, lot(2, 0, 100000), nil, api.OK)
}

// wrongLots returns lots that are not as they should be.
func wrongLots() []api.MillLot {
	l := []api.MillLot{lot(1, 1, 0), lot(1, 100000, 99999)}
	for _, n := range outside(0, 1000) {
		l = append(l, lot(n, 0, 9), lot(n, 0, 100000))
	}
	for _, n := range outside(0, 100000) {
		l = append(l, lot(1, n, n), lot(1, n, 5), lot(1, 5, n), lot(1, n, 100000), lot(1, 0, n))
	}
	return l
}

// TestCausesErrors is for P12.6, P1 and R2: the errors, in their order.
func TestCausesErrors(t *testing.T) {
	for _, l := range [][]api.MillRun{nil, works(), shifts(60, 1600), {run(1, 0, 100000, 4, 5)}} {
		for _, made := range wrongLots() {
			checkCauses(t, l, made, nil, api.ErrArg)
		}
		checkCauses(t, l, lot(1000, 100000, 100000), nil, api.OK)
		checkCauses(t, l, lot(0, 0, 0), nil, api.OK)
	}
}
