package zone_test

import (
	"slices"
	"testing"

	"acme/api"
	"acme/zone"
)

// TestPairs is for P2.6.
func TestPairs(t *testing.T) {
	zero, grade, place, both := class(0, 0), class(0, 1), class(1, 0), class(1, 1)
	for i, c := range []struct {
		size int
		want api.Span
		list []api.ZonePair
	}{
		{60000, span(0, 300), []api.ZonePair{pair(zero, zero), pair(zero, place), pair(place, zero)}},
		{60000, span(30, 300), []api.ZonePair{pair(zero, place), pair(place, zero)}},
		{60000, span(0, 240), []api.ZonePair{pair(zero, zero)}}, {60000, span(1, 240), nil}, {60000, span(0, 239), nil},
		{60000, span(40, 280), []api.ZonePair{pair(zero, place), pair(place, zero)}}, {60000, span(41, 400000), []api.ZonePair{pair(place, place), pair(place, both), pair(both, place), pair(both, both)}}, {60000, span(-400000, -1), nil},
		{60000, span(0, 370), []api.ZonePair{pair(zero, zero), pair(zero, grade), pair(zero, place), pair(grade, zero), pair(place, zero), pair(place, place)}},
		// Another step has other pairs.
		{60001, span(0, 300), []api.ZonePair{pair(zero, zero)}}, {1, span(0, 200), []api.ZonePair{pair(zero, zero)}}, {30000, span(0, 230), []api.ZonePair{pair(zero, zero), pair(zero, place), pair(place, zero)}}, {100000, span(0, 299), nil},
	} {
		if got, e := zone.Pairs(example(), c.size, c.want); !slices.Equal(got, c.list) || e != api.OK {
			t.Error(i, got, e)
		}
	}
	for _, table := range tables() {
		last := table.Steps[len(table.Steps)-1]
		got, e := zone.Pairs(table, last, span(-400000, 400000))
		if classes := len(classesOf(table)); len(got) != classes*classes || e != api.OK {
			t.Error("all pairs", len(got), e)
		}
	}
}

// TestPairsSearch is for P2.6 and P2.7: what Play says of each pair, one after the other.
func TestPairsSearch(t *testing.T) {
	table := small()
	for size := 1; size <= 10; size++ {
		for low := -9; low <= 6; low++ {
			for high := low; high <= 14; high++ {
				var want []api.ZonePair
				widest, width := api.ZonePair{}, -1
				for _, screw := range classesOf(table) {
					for _, nut := range classesOf(table) {
						p := pair(screw, nut)
						play, _ := zone.Play(table, p, size)
						if !lies(play, span(low, high)) {
							continue
						}
						want = append(want, p)
						if w := widths(table, p, size); w > width {
							widest, width = p, w
						}
					}
				}
				if got, e := zone.Pairs(table, size, span(low, high)); !slices.Equal(got, want) || e != api.OK {
					t.Error(size, low, high, got, e)
				}
				none := api.OK
				if width < 0 {
					none = api.ErrNone
				}
				if got, e := zone.Widest(table, size, span(low, high)); got != widest || e != none {
					t.Error(size, low, high, got, e, widest)
				}
			}
		}
	}
}

// widths returns the sum of the widths of both zones.
func widths(table api.ZoneTable, p api.ZonePair, size int) int {
	screws, _ := zone.Limits(table, p.Screw, false, size)
	nuts, _ := zone.Limits(table, p.Nut, true, size)
	return screws.High - screws.Low + nuts.High - nuts.Low
}

// TestWidest is for P2.7.
func TestWidest(t *testing.T) {
	for i, c := range []struct {
		table api.ZoneTable
		size  int
		want  api.Span
		pair  api.ZonePair
	}{
		{example(), 60000, span(0, 300), pair(class(0, 0), class(0, 0))}, {example(), 60000, span(30, 300), pair(class(0, 0), class(1, 0))}, {example(), 60000, span(0, 400000), pair(class(0, 1), class(0, 1))}, {example(), 60000, span(1, 400000), pair(class(0, 1), class(1, 1))}, {example(), 60000, span(41, 400000), pair(class(1, 1), class(1, 1))},
		{example(), 60000, span(0, 499), pair(class(0, 0), class(0, 1))}, {example(), 60000, span(40, 410), pair(class(0, 0), class(1, 1))}, {example(), 60000, span(60, 450), pair(class(1, 0), class(1, 1))}, {example(), 60000, span(60, 449), pair(class(1, 0), class(1, 0))},
		{example(), 1, span(0, 200), pair(class(0, 0), class(0, 0))},
		{largest(), 5, span(-400000, 400000), pair(class(0, 1), class(0, 1))}, {largest(), 5, span(-200000, 0), pair(class(1, 1), class(1, 1))}, {largest(), 5, span(-200000, -200000), pair(class(1, 0), class(1, 0))},
	} {
		if got, e := zone.Widest(c.table, c.size, c.want); got != c.pair || e != api.OK {
			t.Error(i, got, e)
		}
	}
}

// TestPairsErrors is for P2.6 and P2.7: the size comes before what is wanted, and that before pairs that there are not.
func TestPairsErrors(t *testing.T) {
	for _, table := range tables() {
		for _, size := range badSizes(table) {
			for _, want := range append(badSpans(-400000, 400000), span(-400000, 400000), span(399999, 400000)) {
				if got, e := zone.Pairs(table, size, want); len(got) != 0 || e != api.ErrRange {
					t.Error("Pairs", size, want, got, e)
				}
				if got, e := zone.Widest(table, size, want); got != (api.ZonePair{}) || e != api.ErrRange {
					t.Error("Widest", size, want, got, e)
				}
			}
		}
		for _, want := range badSpans(-400000, 400000) {
			if got, e := zone.Pairs(table, 1, want); len(got) != 0 || e != api.ErrArg {
				t.Error("Pairs", want, got, e)
			}
			if got, e := zone.Widest(table, 1, want); got != (api.ZonePair{}) || e != api.ErrArg {
				t.Error("Widest", want, got, e)
			}
		}
	}
	for _, want := range []api.Span{span(1, 240), span(-400000, -1), span(400000, 400000), span(-400000, -400000)} {
		if got, e := zone.Pairs(example(), 60000, want); len(got) != 0 || e != api.OK {
			t.Error("Pairs", want, got, e)
		}
		if got, e := zone.Widest(example(), 60000, want); got != (api.ZonePair{}) || e != api.ErrNone {
			t.Error("Widest", want, got, e)
		}
	}
}
