package zone_test

import (
	"testing"

	"acme/api"
	"acme/zone"
)

// TestLimits is for P2.2.
func TestLimits(t *testing.T) {
	for i, c := range []struct {
		table api.ZoneTable
		class api.ZoneClass
		nut   bool
		size  int
		want  api.Span
	}{
		{example(), class(1, 0), false, 60000, span(59840, 59960)}, {example(), class(1, 0), true, 60000, span(60040, 60160)}, {example(), class(1, 0), false, 60001, span(59801, 59951)}, {example(), class(1, 0), true, 60001, span(60051, 60201)},
		// Both ends of each step.
		{example(), class(1, 1), false, 1, span(-229, -29)}, {example(), class(1, 1), true, 1, span(31, 231)}, {example(), class(1, 1), false, 30000, span(29770, 29970)}, {example(), class(1, 1), false, 30001, span(29711, 29961)},
		{example(), class(1, 1), true, 59999, span(60039, 60289)}, {example(), class(1, 1), true, 100000, span(100050, 100350)}, {example(), class(1, 1), false, 100000, span(99650, 99950)},
		// The numbers of a place and a grade are not exchanged.
		{example(), class(0, 1), false, 60000, span(59750, 60000)}, {example(), class(0, 1), true, 60000, span(60000, 60250)}, {example(), class(0, 0), false, 100, span(0, 100)}, {example(), class(0, 0), false, 99, span(-1, 99)},
		// An allowance below 0.
		{small(), class(1, 3), false, 4, span(2, 7)}, {small(), class(1, 3), true, 4, span(1, 6)}, {small(), class(1, 2), true, 1, span(0, 0)}, {small(), class(2, 3), false, 10, span(3, 12)},
		{largest(), class(0, 1), false, 10000000, span(9800000, 9900000)}, {largest(), class(11, 11), true, 10000000, span(9900000, 10000000)}, {largest(), class(11, 11), false, 1, span(1, 100001)}, {largest(), class(10, 11), false, 1, span(-199999, -99999)}, {largest(), class(10, 11), true, 10000000, span(10100000, 10200000)},
		{smallest(), class(0, 0), false, 1, span(1, 1)}, {smallest(), class(0, 0), true, 1, span(1, 1)},
	} {
		if got, e := zone.Limits(c.table, c.class, c.nut, c.size); got != c.want || e != api.OK {
			t.Error(i, got, e)
		}
	}
}

// badSizes returns sizes that belong to no step of a table.
func badSizes(table api.ZoneTable) []int {
	last := table.Steps[len(table.Steps)-1]
	l := []int{last + 1, 0, -1, -last}
	for _, n := range extremes() {
		if n < 1 || n > last {
			l = append(l, n)
		}
	}
	return l
}

// TestLimitsErrors is for P2.2: a class that there is not comes before a size that belongs to no step.
func TestLimitsErrors(t *testing.T) {
	for _, nut := range []bool{false, true} {
		for _, table := range tables() {
			for _, size := range badSizes(table) {
				if got, e := zone.Limits(table, class(0, 0), nut, size); got != (api.Span{}) || e != api.ErrRange {
					t.Error(size, got, e)
				}
			}
		}
		for _, c := range missingClasses() {
			for _, size := range append(badSizes(example()), 1, 60000) {
				if got, e := zone.Limits(example(), c, nut, size); got != (api.Span{}) || e != api.ErrNone {
					t.Error(c, size, got, e)
				}
			}
		}
	}
	// A table with more places than grades, and one with fewer.
	for _, c := range []struct {
		class api.ZoneClass
		e     api.Errno
	}{{class(2, 3), api.OK}, {class(3, 2), api.ErrNone}, {class(2, 4), api.ErrNone}} {
		if _, e := zone.Limits(small(), c.class, false, 1); e != c.e {
			t.Error(c.class, e)
		}
	}
}

// TestPlay is for P2.5.
func TestPlay(t *testing.T) {
	for i, c := range []struct {
		table api.ZoneTable
		pair  api.ZonePair
		size  int
		want  api.Span
	}{
		{example(), pair(class(1, 0), class(0, 1)), 60000, span(40, 410)}, {example(), pair(class(0, 1), class(1, 0)), 60000, span(40, 410)}, {example(), pair(class(0, 0), class(0, 0)), 60000, span(0, 240)}, {example(), pair(class(0, 0), class(1, 0)), 60000, span(40, 280)},
		{example(), pair(class(1, 1), class(1, 0)), 1, span(60, 360)}, {example(), pair(class(1, 1), class(1, 0)), 100000, span(100, 550)},
		// Pairs that do not go together, surely or possibly.
		{small(), pair(class(1, 0), class(1, 2)), 4, span(-6, -6)}, {small(), pair(class(1, 1), class(1, 0)), 1, span(-2, 1)}, {small(), pair(class(0, 2), class(1, 3)), 4, span(-3, 2)}, {smallest(), pair(class(0, 0), class(0, 0)), 1, span(0, 0)},
		{largest(), pair(class(0, 1), class(0, 1)), 10000000, span(200000, 400000)}, {largest(), pair(class(1, 0), class(1, 0)), 1, span(-200000, -200000)}, {largest(), pair(class(1, 1), class(1, 1)), 1, span(-200000, 0)},
	} {
		if got, e := zone.Play(c.table, c.pair, c.size); got != c.want || e != api.OK {
			t.Error(i, got, e)
		}
	}
}

// TestPlayErrors is for P2.5: the errors of the screw come before those of the nut.
func TestPlayErrors(t *testing.T) {
	good := class(1, 1)
	for _, table := range tables() {
		for _, size := range badSizes(table) {
			if got, e := zone.Play(table, pair(class(0, 0), class(0, 0)), size); got != (api.Span{}) || e != api.ErrRange {
				t.Error(size, got, e)
			}
		}
	}
	for _, c := range missingClasses() {
		for _, size := range append(badSizes(example()), 60000) {
			if got, e := zone.Play(example(), pair(c, good), size); got != (api.Span{}) || e != api.ErrNone {
				t.Error("screw", c, size, got, e)
			}
			if got, e := zone.Play(example(), pair(c, c), size); got != (api.Span{}) || e != api.ErrNone {
				t.Error("both", c, size, got, e)
			}
			// The size is looked at for the screw, before the class of the nut.
			want := api.ErrRange
			if size == 60000 {
				want = api.ErrNone
			}
			if got, e := zone.Play(example(), pair(good, c), size); got != (api.Span{}) || e != want {
				t.Error("nut", c, size, got, e)
			}
		}
	}
}

// playsOf returns the least and the greatest play of all screws and nuts of two zones.
func playsOf(screws, nuts api.Span) api.Span {
	plays := span(nuts.Low-screws.Low, nuts.Low-screws.Low)
	for screw := screws.Low; screw <= screws.High; screw++ {
		for nut := nuts.Low; nut <= nuts.High; nut++ {
			plays.Low, plays.High = min(plays.Low, nut-screw), max(plays.High, nut-screw)
		}
	}
	return plays
}

// TestSureToGoTogether is for P2.10: all plays lie in Play, and both ends are plays.
func TestSureToGoTogether(t *testing.T) {
	table := small()
	for size := 1; size <= 10; size++ {
		for _, screw := range classesOf(table) {
			for _, nut := range classesOf(table) {
				screws, e := zone.Limits(table, screw, false, size)
				nuts, f := zone.Limits(table, nut, true, size)
				got, g := zone.Play(table, pair(screw, nut), size)
				if got != playsOf(screws, nuts) || e != api.OK || f != api.OK || g != api.OK {
					t.Error(screw, nut, size, screws, nuts, got, e, f, g)
				}
			}
		}
	}
}

// TestWidestGoesTogether is for P2.10: with the pair that Widest returns each play lies in want.
func TestWidestGoesTogether(t *testing.T) {
	table := small()
	for size := 1; size <= 10; size++ {
		for low := -6; low <= 6; low++ {
			for high := low; high <= 12; high++ {
				got, e := zone.Widest(table, size, span(low, high))
				if e == api.ErrNone {
					continue
				}
				screws, _ := zone.Limits(table, got.Screw, false, size)
				nuts, _ := zone.Limits(table, got.Nut, true, size)
				if plays := playsOf(screws, nuts); !lies(plays, span(low, high)) || e != api.OK {
					t.Error(size, low, high, got, plays, e)
				}
			}
		}
	}
}
