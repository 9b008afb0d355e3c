package fit_test

import (
	"slices"
	"testing"

	"acme/api"
	"acme/fit"
)

// TestGoers is for P3.7: pairs that are worked out by hand.
func TestGoers(t *testing.T) {
	one, two, three := lean(0, 10), lean(0, 10, 100, 110), lean(0, 10, 100, 110, 200, 210)
	wide, off := lean(0, 20, 100, 120), lean(0, 10, 101, 111)
	for i, c := range []struct {
		screws, nuts []api.FitThread
		want         [][2]int
	}{
		{nil, nil, nil}, {[]api.FitThread{one}, nil, nil}, {nil, []api.FitThread{one}, nil}, {[]api.FitThread{one}, []api.FitThread{two}, nil},
		{[]api.FitThread{one, two, three}, []api.FitThread{three, two, one}, [][2]int{{0, 2}, {1, 1}, {2, 0}}},
		{[]api.FitThread{two, off, wide}, []api.FitThread{wide, off, two}, [][2]int{{0, 0}, {0, 2}, {1, 0}, {1, 1}, {2, 0}}},
		{[]api.FitThread{two, one, two}, []api.FitThread{two, one, wide, one}, [][2]int{{0, 0}, {0, 2}, {1, 1}, {1, 3}, {2, 0}, {2, 2}}},
		// A screw that goes through a longer nut is no screw with as many turns.
		{[]api.FitThread{one}, []api.FitThread{three}, nil}, {[]api.FitThread{three}, []api.FitThread{one}, nil},
		// Some shift, however far it is.
		{[]api.FitThread{moved(two, 9000000)}, []api.FitThread{moved(two, -9000000)}, [][2]int{{0, 0}}},
	} {
		if got, e := fit.Goers(c.screws, c.nuts, usual()); !slices.Equal(got, c.want) || e != api.OK {
			t.Error(i, got, e)
		}
	}
}

// TestGoersSearch is for P3.7: each pair, height by height.
func TestGoersSearch(t *testing.T) {
	r := dice()
	found := 0
	for range 40 {
		f := forms()[r.IntN(len(forms()))]
		depth := depths()[r.IntN(6)]
		var screws, nuts []api.FitThread
		for range 1 + r.IntN(12) {
			screws = append(screws, anyThread(r, f, 1+r.IntN(4), 9))
			nuts = append(nuts, anyThread(r, f, 1+r.IntN(4), 9))
		}
		var want [][2]int
		for i, screw := range screws {
			for k, nut := range nuts {
				if len(screw.Turns) == len(nut.Turns) && goesInto(asIs(screw), asIs(nut), len(nut.Turns), depth) {
					want = append(want, [2]int{i, k})
				}
			}
		}
		if got, e := fit.Goers(screws, nuts, depth); !slices.Equal(got, want) || e != api.OK {
			t.Error(screws, nuts, depth, got, e, want)
		}
		found += len(want)
	}
	if found < 20 {
		t.Error("the search has few pairs", found)
	}
}

// TestGoersErrors is for P3.7: lots that are too long come before threads, and the screws before the nuts, one by one.
func TestGoersErrors(t *testing.T) {
	good, long, bad := lean(0, 1), longThreads()[0], api.FitThread{}
	lot := func(n int) []api.FitThread { return slices.Repeat([]api.FitThread{good}, n) }
	for i, c := range []struct {
		screws, nuts []api.FitThread
		depth        api.Span
		e            api.Errno
	}{
		{lot(50), lot(50), usual(), api.OK}, {lot(51), nil, usual(), api.ErrLong}, {nil, lot(51), usual(), api.ErrLong}, {lot(51), lot(51), span(1, 0), api.ErrLong},
		{append(lot(50), bad), nil, usual(), api.ErrLong}, {[]api.FitThread{bad}, lot(51), usual(), api.ErrLong}, {slices.Repeat([]api.FitThread{bad}, 51), nil, usual(), api.ErrLong},
		{[]api.FitThread{good, bad, long}, []api.FitThread{long}, usual(), api.ErrArg}, {[]api.FitThread{good, long, bad}, []api.FitThread{bad}, usual(), api.ErrLong},
		{[]api.FitThread{good, bad}, []api.FitThread{long, good}, usual(), api.ErrArg}, {[]api.FitThread{good, long}, []api.FitThread{bad, good}, usual(), api.ErrLong},
		{lot(3), []api.FitThread{good, bad, long}, span(1, 0), api.ErrArg}, {lot(3), []api.FitThread{good, long, bad}, span(1, 0), api.ErrLong}, {nil, append(lot(49), bad), usual(), api.ErrArg}, {append(lot(49), bad), nil, usual(), api.ErrArg},
		{lot(3), lot(3), span(1, 0), api.ErrRange}, {nil, nil, span(0, 200001), api.ErrRange},
	} {
		got, e := fit.Goers(c.screws, c.nuts, c.depth)
		if e != c.e || e != api.OK && len(got) != 0 {
			t.Error(i, got, e)
		}
	}
	all, _ := fit.Goers(lot(50), lot(50), usual())
	if len(all) != 2500 || all[0] != [2]int{0, 0} || all[51] != [2]int{1, 1} || all[2499] != [2]int{49, 49} || !slices.IsSortedFunc(all, func(a, b [2]int) int { return slices.Compare(a[:], b[:]) }) {
		t.Error("not all pairs of two whole lots", len(all))
	}
}
