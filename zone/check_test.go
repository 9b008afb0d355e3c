package zone_test

import (
	"slices"
	"testing"

	"acme/api"
	"acme/zone"
)

// change is a change of a table.
type change = func(t *api.ZoneTable)

// rows returns a number of rows of a length.
func rows(number, length int) [][]int {
	l := make([][]int, number)
	for i := range l {
		l[i] = make([]int, length)
	}
	return l
}

// ascending returns the integers from 1 to n.
func ascending(n int) []int {
	l := make([]int, n)
	for i := range l {
		l[i] = i + 1
	}
	return l
}

// longTables returns tables with a list that is too long by one, or by many, and which have further errors.
func longTables() []api.ZoneTable {
	return []api.ZoneTable{
		{Steps: ascending(21), Grades: rows(1, 21), Places: rows(1, 21)},
		{Steps: ascending(3), Grades: rows(13, 3), Places: rows(1, 3)},
		{Steps: ascending(3), Grades: rows(1, 3), Places: rows(13, 3)},
		{Steps: ascending(500), Grades: rows(500, 500), Places: rows(500, 500)},
		// Neither their form nor their numbers are right.
		{Steps: ascending(21), Grades: rows(2, 20), Places: rows(2, 21)},
		{Steps: make([]int, 21)},
		{Steps: ascending(3), Grades: rows(13, 2)},
		{Places: make([][]int, 13)},
		example(func(t *api.ZoneTable) { t.Grades, t.Places[1] = slices.Repeat(t.Grades, 7), []int{-1} }),
		example(func(t *api.ZoneTable) { t.Places, t.Grades[0] = slices.Repeat(t.Places, 7), []int{-1, 0, 0} }),
	}
}

// formTables returns tables with a row that has not as many numbers as there are steps, and which have further errors.
func formTables() []api.ZoneTable {
	l := []api.ZoneTable{
		{Steps: ascending(1), Grades: rows(1, 0), Places: rows(1, 1)},
		{Steps: ascending(1), Grades: rows(1, 1), Places: rows(1, 0)},
		{Steps: ascending(20), Grades: rows(12, 20), Places: rows(12, 21)},
		{Grades: rows(1, 1)}, {Places: rows(1, 1)},
		{Steps: []int{0}, Grades: rows(1, 2)},
		{Steps: []int{5, 5}, Places: rows(1, 1)},
	}
	for _, row := range [][]int{nil, {}, {1}, {1, 2}, {1, 2, 3, 4}, {-1, -1, -1, -1}} {
		l = append(l,
			example(func(t *api.ZoneTable) { t.Grades[0] = row }), example(func(t *api.ZoneTable) { t.Grades[1] = row }),
			example(func(t *api.ZoneTable) { t.Places[0] = row }), example(func(t *api.ZoneTable) { t.Places[1] = row }),
			example(func(t *api.ZoneTable) { t.Places[1], t.Grades[0][0] = row, -1 }),
			example(func(t *api.ZoneTable) { t.Grades[1], t.Steps[0] = row, 0 }),
			example(func(t *api.ZoneTable) { t.Grades[1], t.Places = row, nil }),
		)
	}
	return l
}

// argTables returns tables of the right form with numbers that are not valid.
func argTables() []api.ZoneTable {
	l := []api.ZoneTable{
		{}, {Steps: []int{}, Grades: [][]int{}, Places: [][]int{}},
		{Grades: rows(1, 0), Places: rows(1, 0)},
		{Steps: ascending(3)},
		{Steps: ascending(3), Grades: rows(1, 3)},
		{Steps: ascending(3), Places: rows(1, 3)},
	}
	for _, steps := range [][]int{
		{0, 1, 2}, {-1, 1, 2}, {5, 5, 6}, {5, 6, 6}, {6, 5, 7}, {5, 7, 6}, {7, 8, 7}, {3, 2, 1},
		{1, 2, 10000001}, {10000001, 10000002, 10000003},
	} {
		l = append(l, example(func(t *api.ZoneTable) { t.Steps = steps }))
	}
	for _, n := range append(extremes(), 100001, -100001) {
		for i := range 3 {
			if n < 1 || n > 10000000 {
				l = append(l, example(func(t *api.ZoneTable) { t.Steps[i] = n }))
			}
			if n < 0 || n > 100000 {
				l = append(l, example(func(t *api.ZoneTable) { t.Grades[0][i] = n }), example(func(t *api.ZoneTable) { t.Grades[1][i] = n }))
			}
			if n < -100000 || n > 100000 {
				l = append(l, example(func(t *api.ZoneTable) { t.Places[0][i] = n }), example(func(t *api.ZoneTable) { t.Places[1][i] = n }))
			}
		}
	}
	return l
}

// TestCheckGood is for P2.1: tables that are as they should be, with each limit reached.
func TestCheckGood(t *testing.T) {
	l := append(tables(),
		api.ZoneTable{Steps: ascending(20), Grades: rows(12, 20), Places: rows(12, 20)},
		api.ZoneTable{Steps: ascending(20), Grades: rows(1, 20), Places: rows(12, 20)},
		api.ZoneTable{Steps: ascending(20), Grades: rows(12, 20), Places: rows(1, 20)},
		api.ZoneTable{Steps: []int{10000000}, Grades: [][]int{{100000}}, Places: [][]int{{-100000}}},
		api.ZoneTable{Steps: []int{1, 2, 10000000}, Grades: [][]int{{0, 100000, 0}}, Places: [][]int{{100000, 0, -100000}}},
	)
	for _, n := range []int{0, 1, 99999, 100000} {
		l = append(l, example(func(t *api.ZoneTable) { t.Grades[1][1] = n }), example(func(t *api.ZoneTable) { t.Places[1][1] = n }), example(func(t *api.ZoneTable) { t.Places[0][2] = -n }))
	}
	for i, table := range l {
		if e := zone.Check(table); e != api.OK {
			t.Error(i, table, e)
		}
	}
}

// TestCheckBad is for P2.1: what is too long comes before the form, and the form before the numbers.
func TestCheckBad(t *testing.T) {
	for want, l := range map[api.Errno][]api.ZoneTable{api.ErrLong: longTables(), api.ErrForm: formTables(), api.ErrArg: argTables()} {
		for i, table := range l {
			if e := zone.Check(table); e != want {
				t.Error(want, i, table, e)
			}
		}
	}
}

// answer is whether a result is its zero value, and the error.
type answer struct {
	zero bool
	e    api.Errno
}

func valueAnswer[T comparable](value T, e api.Errno) answer {
	var zero T
	return answer{zero: value == zero, e: e}
}

func listAnswer[T any](l []T, e api.Errno) answer { return answer{zero: len(l) == 0, e: e} }

// TestCheckFirst is for P2.1, P1 and R2: the errors of a table come before all others, and with them the results are zero.
func TestCheckFirst(t *testing.T) {
	good, none := class(0, 0), class(-1, 99)
	wide := span(-400000, 400000)
	for want, l := range map[api.Errno][]api.ZoneTable{api.ErrLong: longTables(), api.ErrForm: formTables(), api.ErrArg: argTables()} {
		for i, table := range l {
			for name, got := range map[string]answer{
				"Limits":            valueAnswer(zone.Limits(table, good, false, 1)),
				"Limits none":       valueAnswer(zone.Limits(table, none, true, 0)),
				"Limits size":       valueAnswer(zone.Limits(table, good, true, 1<<40)),
				"Play":              valueAnswer(zone.Play(table, pair(good, good), 1)),
				"Play none":         valueAnswer(zone.Play(table, pair(none, good), 0)),
				"Play nut none":     valueAnswer(zone.Play(table, pair(good, none), 1)),
				"Play size":         valueAnswer(zone.Play(table, pair(good, good), -1)),
				"Pairs":             listAnswer(zone.Pairs(table, 1, wide)),
				"Pairs size":        listAnswer(zone.Pairs(table, 0, wide)),
				"Pairs want":        listAnswer(zone.Pairs(table, 1, span(1, 0))),
				"Widest":            valueAnswer(zone.Widest(table, 1, wide)),
				"Widest size":       valueAnswer(zone.Widest(table, 0, wide)),
				"Widest want":       valueAnswer(zone.Widest(table, 1, span(1, 0))),
				"Within":            listAnswer(zone.Within(table, good, good, false)),
				"Within first none": listAnswer(zone.Within(table, none, good, true)),
				"Within other none": listAnswer(zone.Within(table, good, none, true)),
			} {
				if got != (answer{zero: true, e: want}) {
					t.Error(want, i, table, name, got)
				}
			}
		}
	}
}
