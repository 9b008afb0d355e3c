package zone_test

import (
	"slices"
	"testing"

	"acme/api"
	"acme/zone"
)

// islands returns a table whose grade 0 is finer than its grade 1 in some steps only.
func islands() api.ZoneTable {
	return api.ZoneTable{
		Steps:  []int{5, 6, 20, 21, 40, 10000000},
		Grades: [][]int{{1, 2, 9, 1, 9, 7}, {1, 3, 8, 2, 8, 7}},
		Places: [][]int{{0, 0, 0, 0, 0, 0}, {1, 1, 1, -1, -1, 0}},
	}
}

// TestWithin is for P2.8.
func TestWithin(t *testing.T) {
	for i, c := range []struct {
		table api.ZoneTable
		a, b  api.ZoneClass
		want  []api.Span
	}{
		{example(), class(1, 0), class(0, 1), []api.Span{span(1, 100000)}}, {example(), class(0, 1), class(1, 0), nil}, {example(), class(0, 0), class(1, 0), nil}, {example(), class(1, 1), class(0, 1), nil},
		// Just as wide on one side, and one less.
		{example(func(t *api.ZoneTable) { t.Places[1][1] = 130 }), class(1, 0), class(0, 1), []api.Span{span(1, 100000)}}, {example(func(t *api.ZoneTable) { t.Places[1][1] = 131 }), class(1, 0), class(0, 1), []api.Span{span(1, 30000), span(60001, 100000)}},
		{example(func(t *api.ZoneTable) { t.Places[1][0] = -1 }), class(1, 0), class(0, 1), []api.Span{span(30001, 100000)}}, {example(func(t *api.ZoneTable) { t.Places[1][2] = -1 }), class(1, 0), class(0, 1), []api.Span{span(1, 60000)}},
		{example(func(t *api.ZoneTable) { t.Places[1][0], t.Places[1][2] = -1, 151 }), class(1, 0), class(0, 1), []api.Span{span(30001, 60000)}},
		{islands(), class(0, 0), class(0, 1), []api.Span{span(1, 6), span(21, 21), span(41, 10000000)}}, {islands(), class(0, 1), class(0, 0), []api.Span{span(1, 5), span(7, 20), span(22, 10000000)}}, {islands(), class(1, 0), class(0, 1), []api.Span{span(6, 6), span(41, 10000000)}}, {islands(), class(0, 0), class(1, 1), []api.Span{span(21, 21), span(41, 10000000)}},
		{largest(), class(1, 0), class(1, 1), []api.Span{span(1, 10000000)}}, {largest(), class(1, 0), class(0, 1), nil}, {smallest(), class(0, 0), class(0, 0), []api.Span{span(1, 1)}},
	} {
		for _, nut := range []bool{false, true} {
			if got, e := zone.Within(c.table, c.a, c.b, nut); !slices.Equal(got, c.want) || e != api.OK {
				t.Error(i, nut, got, e)
			}
		}
	}
}

// TestWithinSearch is for P2.8: what Limits says of each size, one after the other.
func TestWithinSearch(t *testing.T) {
	short := islands()
	short.Steps[5] = 50
	for i, table := range []api.ZoneTable{small(), short} {
		last := table.Steps[len(table.Steps)-1]
		for _, a := range classesOf(table) {
			for _, b := range classesOf(table) {
				for _, nut := range []bool{false, true} {
					var sizes []api.Span
					open := false
					for size := 1; size <= last; size++ {
						first, _ := zone.Limits(table, a, nut, size)
						second, _ := zone.Limits(table, b, nut, size)
						in := lies(first, second)
						if in && open {
							sizes[len(sizes)-1].High = size
						} else if in {
							sizes = append(sizes, span(size, size))
						}
						open = in
					}
					if got, e := zone.Within(table, a, b, nut); !slices.Equal(got, sizes) || e != api.OK {
						t.Error(i, a, b, nut, got, e, sizes)
					}
				}
			}
		}
	}
}

// TestWithinErrors is for P2.8: both classes must be those of a place and a grade.
func TestWithinErrors(t *testing.T) {
	for _, nut := range []bool{false, true} {
		for _, c := range missingClasses() {
			for _, other := range []api.ZoneClass{class(0, 0), class(1, 1), c} {
				if got, e := zone.Within(example(), c, other, nut); len(got) != 0 || e != api.ErrNone {
					t.Error(c, other, got, e)
				}
				if got, e := zone.Within(example(), other, c, nut); len(got) != 0 || e != api.ErrNone {
					t.Error(other, c, got, e)
				}
			}
		}
	}
}

// TestFiner is for P2.12.
func TestFiner(t *testing.T) {
	for i, table := range tables() {
		all := []api.Span{span(1, table.Steps[len(table.Steps)-1])}
		for _, a := range classesOf(table) {
			for grade := range table.Grades {
				finer := true
				for step, n := range table.Grades[a.Grade] {
					finer = finer && n <= table.Grades[grade][step]
				}
				for _, nut := range []bool{false, true} {
					got, e := zone.Within(table, a, class(a.Place, grade), nut)
					if e != api.OK || finer != slices.Equal(got, all) {
						t.Error(i, a, grade, nut, got, e)
					}
					if got, e := zone.Within(table, a, a, nut); e != api.OK || !slices.Equal(got, all) {
						t.Error(i, "within itself", a, nut, got, e)
					}
					checkFiner(t, table, a, grade, nut, finer)
				}
			}
		}
	}
}

// checkFiner looks at zones themselves.
func checkFiner(t *testing.T, table api.ZoneTable, a api.ZoneClass, grade int, nut, finer bool) {
	t.Helper()
	for _, size := range someSizes(table) {
		first, e := zone.Limits(table, a, nut, size)
		second, f := zone.Limits(table, class(a.Place, grade), nut, size)
		if e != api.OK || f != api.OK || finer && !lies(first, second) {
			t.Error(a, grade, nut, size, first, second, e, f)
		}
	}
}
