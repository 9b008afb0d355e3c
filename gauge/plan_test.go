package gauge_test

import (
	"testing"

	"acme/api"
	"acme/gauge"
)

// TestPlan is for P4.9.
func TestPlan(t *testing.T) {
	for i, c := range []struct {
		ring                bool
		wear                api.Span
		pieces, wide, limit int
		want                api.Span
	}{
		{false, span(20, 50), 1000, 8, 4980, span(5030, 5038)}, {true, span(20, 50), 1000, 8, 4980, span(4922, 4930)},
		{false, span(20, 50), 0, 8, 4980, span(4980, 4988)}, {true, span(20, 50), 0, 8, 4980, span(4972, 4980)},
		{false, span(20, 50), 1, 0, 4980, span(4981, 4981)}, {true, span(20, 50), 1, 0, 4980, span(4979, 4979)}, {false, span(20, 50), 20, 0, 4980, span(4981, 4981)}, {false, span(20, 50), 21, 0, 4980, span(4982, 4982)},
		{false, span(0, 0), 100000, 5, 7, span(7, 12)}, {true, span(0, 0), 100000, 5, 7, span(2, 7)},
		// Each limit is reached, and so are both ends of where the zone may lie.
		{false, span(10000, 10000), 100000, 100000, 0, span(1000000, 1100000)}, {true, span(0, 10000), 100000, 100000, 10000000, span(8900000, 9000000)},
		{false, span(0, 10000), 100000, 100000, 8900000, span(9900000, 10000000)}, {true, span(0, 10000), 100000, 100000, 1100000, span(0, 100000)},
		{false, span(0, 0), 0, 0, 0, span(0, 0)}, {true, span(0, 0), 0, 0, 0, span(0, 0)}, {false, span(0, 0), 0, 0, 10000000, span(10000000, 10000000)}, {true, span(0, 0), 0, 0, 10000000, span(10000000, 10000000)},
	} {
		if got, e := gauge.Plan(c.ring, c.wear, c.pieces, c.wide, c.limit); got != c.want || e != api.OK {
			t.Error(i, got, e)
		}
	}
}

// TestPlanErrors is for P4.9: the wear comes before the numbers, and they before a zone that does not lie from 0 to MaxLength.
func TestPlanErrors(t *testing.T) {
	check := func(want api.Errno, ring bool, wear api.Span, pieces, wide, limit int) {
		t.Helper()
		if got := valueAnswer(gauge.Plan(ring, wear, pieces, wide, limit)); got != failed(want) {
			t.Error(ring, wear, pieces, wide, limit, got, want)
		}
	}
	good := span(20, 50)
	for _, ring := range []bool{false, true} {
		for _, wear := range badSpans(10000) {
			check(api.ErrArg, ring, wear, 1000, 8, 5000)
			check(api.ErrArg, ring, wear, -1, 100001, 10000001)
			check(api.ErrArg, ring, wear, 1000, 8, 10000000)
		}
		for _, n := range badLimits(100000) {
			check(api.ErrRange, ring, good, n, 8, 5000)
			check(api.ErrRange, ring, good, 1000, n, 5000)
			check(api.ErrRange, ring, good, n, 8, 10000000)
			check(api.ErrRange, ring, good, 1000, n, 0)
		}
		for _, n := range badLimits(10000000) {
			check(api.ErrRange, ring, good, 1000, 8, n)
			check(api.ErrRange, ring, span(0, 0), 0, 0, n)
		}
	}
	check(api.ErrState, false, span(0, 10000), 100000, 100000, 8900001)
	check(api.ErrState, true, span(0, 10000), 100000, 100000, 1099999)
	check(api.ErrState, false, good, 1, 0, 10000000)
	check(api.ErrState, true, good, 1, 0, 0)
	check(api.ErrState, false, span(0, 0), 0, 1, 10000000)
	check(api.ErrState, true, span(0, 0), 0, 1, 0)
}

// TestPlanNearest is for P4.9: with the zone that is planned no gauge becomes beyond the limit, and with one that is nearer by one unit a gauge can.
func TestPlanNearest(t *testing.T) {
	r := dice()
	for range 2000 {
		ring, wear := r.IntN(2) == 0, part(r, span(0, 10000))
		pieces, wide, limit := 1+r.IntN(100000), r.IntN(100), 2000000+r.IntN(6000000)
		zone, e := gauge.Plan(ring, wear, pieces, wide, limit)
		if e != api.OK || zone.High-zone.Low != wide {
			t.Fatal(ring, wear, pieces, wide, limit, zone, e)
		}
		nearer := span(zone.Low-1, zone.High-1)
		if ring {
			nearer = span(zone.Low+1, zone.High+1)
		}
		for i, s := range []api.Span{zone, nearer} {
			rules := api.GaugeRules{Ring: ring, New: s, Wear: wear}
			_, possibly, e := gauge.Beyond(rules, events(tried(pieces)), limit)
			if possibly != (i == 1) || e != api.OK {
				t.Error(rules, pieces, limit, possibly, e)
			}
		}
	}
}
