package mill_test

import (
	"testing"

	"acme/api"
	"acme/mill"
)

func checkNext(t *testing.T, l []api.MillRun, bad, good, lots []api.MillLot, wantLot, wantLeft int, wantE api.Errno) {
	t.Helper()
	if number, left, e := mill.Next(l, bad, good, lots); number != wantLot || left != wantLeft || e != wantE {
		t.Error(l, bad, good, lots, number, left, e, wantLot, wantLeft, wantE)
	}
}

// TestNextExample is for P12.9: the chapter's runs, by hand.
func TestNextExample(t *testing.T) {
	l, bad := works(), []api.MillLot{lot(1, 9, 10)}
	// The culprits are the coils 5 and 6, the die 2, and the hours 9 and 10.
	for _, c := range []struct {
		lot  api.MillLot
		left int
	}{
		{lot(1, 20, 30), 5}, {lot(3, 0, 99), 5}, {lot(1, 9, 10), 5}, {lot(1, 0, 19), 5}, {lot(1, 0, 8), 3}, {lot(1, 11, 12), 3}, {lot(2, 0, 3), 4}, {lot(1, 9, 9), 3}, {lot(1, 10, 12), 3}, {lot(1, 8, 9), 3},
	} {
		checkNext(t, l, bad, nil, []api.MillLot{c.lot}, 0, c.left, api.OK)
	}
	checkNext(t, l, bad, nil, []api.MillLot{lot(1, 20, 30), lot(2, 0, 3), lot(1, 0, 8), lot(1, 11, 12), lot(2, 5, 5)}, 2, 3, api.OK)
	checkNext(t, l, bad, nil, []api.MillLot{lot(2, 0, 3), lot(2, 5, 5), lot(1, 20, 30)}, 0, 4, api.OK)
	checkNext(t, l, bad, nil, []api.MillLot{lot(1, 20, 30), lot(2, 5, 5), lot(1, 0, 9), lot(1, 0, 9)}, 2, 3, api.OK)
	// Without the coil 6 and the die 2 three are left: one of them is looked for.
	good := []api.MillLot{lot(1, 15, 19)}
	checkNext(t, l, bad, good, []api.MillLot{lot(1, 15, 19), lot(1, 0, 8), lot(1, 9, 9)}, 1, 2, api.OK)
	checkNext(t, l, bad, good, []api.MillLot{lot(1, 15, 19), lot(1, 20, 20)}, 0, 3, api.OK)
	// One culprit stays, whatever is looked at.
	both := []api.MillLot{lot(1, 9, 10), lot(2, 0, 3)}
	checkNext(t, l, both, nil, []api.MillLot{lot(1, 0, 3), lot(2, 5, 5)}, 0, 1, api.OK)
	checkNext(t, l, both, good, []api.MillLot{lot(1, 0, 3)}, 0, 0, api.ErrState)
	checkNext(t, nil, both, nil, []api.MillLot{lot(1, 0, 3)}, 0, 0, api.ErrState)
}

// TestNextSearch is for P12.9, against the culprits after each lot, if it is good or bad.
func TestNextSearch(t *testing.T) {
	r := dice()
	found := 0
	for range 3000 {
		l, bad, good, lots := anyWorks(r), anyLots(r, 2), anyLots(r, 2), anyLots(r, 5)
		switch {
		case len(bad) == 0 || len(lots) == 0:
			checkNext(t, l, bad, good, lots, 0, 0, api.ErrNone)
			continue
		case len(culprits(l, bad, good)) == 0:
			checkNext(t, l, bad, good, lots, 0, 0, api.ErrState)
			continue
		}
		best, least := 0, 1<<40
		for number, made := range lots {
			ifBad, ifGood := culprits(l, append(bad, made), good), culprits(l, bad, append(good, made))
			if most := max(len(ifBad), len(ifGood)); most < least {
				best, least = number, most
			}
		}
		checkNext(t, l, bad, good, lots, best, least, api.OK)
		if best > 0 {
			found++
		}
	}
	if found < 60 {
		t.Error(found)
	}
}

// TestNextFull is for P12.9 and R7: as many lots as there may be, with as many causes as they may have.
func TestNextFull(t *testing.T) {
	l, bad := []api.MillRun{run(1, 0, 100000, 4, 5)}, full(lot(1, 0, 997), 40)
	lots := append(full(lot(1, 0, 997), 39), lot(1, 2000, 2000))
	checkNext(t, l, bad, full(lot(2, 0, 9), 40), lots, 39, 998, api.OK)
	// The hours 499 to 997 with the coil and the die are 501.
	lots[38] = lot(1, 499, 997)
	checkNext(t, l, bad, nil, lots, 38, 501, api.OK)
	lots[37] = lot(1, 500, 997)
	checkNext(t, l, bad, nil, lots, 37, 500, api.OK)
	lots[38] = lot(1, 3, 500)
	checkNext(t, l, bad, nil, lots, 37, 500, api.OK)
}

// TestNextErrors is for P12.9, P1 and R2: the errors, in their order.
func TestNextErrors(t *testing.T) {
	l, right := []api.MillRun{run(1, 0, 100000, 4, 5)}, []api.MillLot{lot(1, 0, 9), lot(1, 5, 8)}
	longLot, wrong := lot(1, 0, 100000), lot(1, 5, 4)
	long := full(lot(1, 0, 9), 41)
	for _, lots := range [][]api.MillLot{nil, right, full(wrong, 3), full(longLot, 3), long, full(wrong, 41)} {
		// Those of Culprits come first.
		checkNext(t, l, long, nil, lots, 0, 0, api.ErrLong)
		checkNext(t, l, nil, full(wrong, 41), lots, 0, 0, api.ErrLong)
		checkNext(t, l, nil, right, lots, 0, 0, api.ErrNone)
		checkNext(t, l, nil, full(wrong, 2), lots, 0, 0, api.ErrNone)
		for _, c := range lotErrors() {
			checkNext(t, l, []api.MillLot{lot(1, 0, 9), c.lot}, right, lots, 0, 0, c.want)
			checkNext(t, l, right, []api.MillLot{lot(1, 0, 9), c.lot}, lots, 0, 0, c.want)
		}
	}
	for _, good := range [][]api.MillLot{nil, right} {
		checkNext(t, l, right, good, long, 0, 0, api.ErrLong)
		checkNext(t, l, right, good, full(wrong, 41), 0, 0, api.ErrLong)
		checkNext(t, l, right, good, full(wrong, 5000), 0, 0, api.ErrLong)
		for _, c := range lotErrors() {
			for _, some := range within(right, c.lot) {
				checkNext(t, l, right, good, some, 0, 0, c.want)
				checkNext(t, l, right, good, append(some, longLot, wrong), 0, 0, c.want)
				checkNext(t, l, right, good, append(some, wrong, longLot), 0, 0, c.want)
			}
		}
		// No lots, even if there are no culprits.
		checkNext(t, l, right, good, nil, 0, 0, api.ErrNone)
		checkNext(t, l, right, good, []api.MillLot{}, 0, 0, api.ErrNone)
	}
	checkNext(t, l, right, right, right, 0, 0, api.ErrState)
	checkNext(t, l, right, right, full(lot(1, 0, 9), 40), 0, 0, api.ErrState)
}
