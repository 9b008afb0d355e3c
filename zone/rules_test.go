package zone_test

import (
	"math"
	"reflect"
	"slices"
	"testing"

	"acme/api"
	"acme/zone"
)

// TestTerminates is for P1: no function panics, whatever its arguments are.
func TestTerminates(t *testing.T) {
	for _, n := range extremes() {
		for _, m := range extremes() {
			c, s := class(n, m), span(n, m)
			for _, table := range append(tables(), api.ZoneTable{}, api.ZoneTable{Steps: []int{n, m}, Grades: [][]int{{m, n}, nil}, Places: [][]int{{n, m}}}, api.ZoneTable{Steps: []int{n}, Grades: [][]int{{m}}, Places: [][]int{{n}}}) {
				for _, nut := range []bool{false, true} {
					zone.Check(table)
					zone.Limits(table, c, nut, n)
					zone.Limits(table, class(0, 0), nut, n)
					zone.Play(table, pair(c, class(m, n)), m)
					zone.Play(table, pair(class(0, 0), c), 1)
					zone.Pairs(table, n, s)
					zone.Pairs(table, 1, s)
					zone.Widest(table, n, s)
					zone.Widest(table, 1, s)
					zone.Within(table, c, class(0, 0), nut)
					zone.Within(table, class(0, 0), c, nut)
				}
			}
			for _, nut := range []bool{false, true} {
				zone.Before(s, nut, coat(0, 1, n, m))
				zone.Before(span(0, 1), nut, coat(n, m, m, n))
				zone.After(s, nut, coat(0, 1, n, m))
				zone.After(span(0, 1), nut, coat(n, m, m, n))
			}
			zone.Groups(s, span(0, 1), span(m, n))
			zone.Groups(span(0, 1), s, s)
		}
	}
}

// copyOf returns a table that shares no memory.
func copyOf(t api.ZoneTable) api.ZoneTable {
	deep := func(rows [][]int) [][]int {
		l := slices.Clone(rows)
		for i := range l {
			l[i] = slices.Clone(l[i])
		}
		return l
	}
	return api.ZoneTable{Steps: slices.Clone(t.Steps), Grades: deep(t.Grades), Places: deep(t.Places)}
}

// allAnswers returns the results of all functions with a table.
func allAnswers(table api.ZoneTable) []any {
	first, last := class(0, 0), class(len(table.Places)-1, len(table.Grades)-1)
	l := []any{zone.Check(table)}
	for _, nut := range []bool{false, true} {
		l = append(l, both(zone.Limits(table, last, nut, 1)), both(zone.Within(table, first, last, nut)), both(zone.Within(table, last, last, nut)))
		l = append(l, both(zone.Before(span(0, 100), nut, coat(3, 9, 5, 2))), both(zone.After(span(0, 100), nut, coat(3, 9, 5, 2))))
	}
	l = append(l, both(zone.Play(table, pair(first, last), 1)), both(zone.Pairs(table, 1, span(-50, 350))), both(zone.Widest(table, 1, span(-50, 350))))
	return append(l, both(zone.Groups(span(5, 90), span(20, 99), span(-9, 40))))
}

// both keeps a result and its error together.
func both[T any](value T, e api.Errno) any { return [2]any{value, e} }

// TestEqualResults is for P2 and R4: equal arguments have equal results, whatever was called before, and no argument is changed.
func TestEqualResults(t *testing.T) {
	all := slices.Concat(tables(), []api.ZoneTable{islands()}, longTables(), formTables(), argTables()[:20])
	var once [][]any
	for _, table := range all {
		before := copyOf(table)
		once = append(once, allAnswers(table))
		if !reflect.DeepEqual(before, copyOf(table)) {
			t.Error("a table has changed", before, table)
		}
	}
	for i, table := range all {
		if twice := allAnswers(copyOf(table)); !reflect.DeepEqual(once[i], twice) {
			t.Error("results differ", i, once[i], twice)
		}
	}
}

// TestNewMemory is for R4: a result shares memory neither with a table nor with another result.
func TestNewMemory(t *testing.T) {
	table := islands()
	a, b := class(0, 0), class(0, 1)
	sizes, _ := zone.Within(table, a, b, false)
	pairs, _ := zone.Pairs(table, 6, span(0, 9))
	wantSizes, wantPairs := slices.Clone(sizes), slices.Clone(pairs)
	for i := range sizes {
		sizes[i] = span(math.MaxInt, math.MinInt)
	}
	for i := range pairs {
		pairs[i] = pair(class(-1, -1), class(-1, -1))
	}
	if got, e := zone.Within(table, a, b, false); len(got) != 3 || !slices.Equal(got, wantSizes) || e != api.OK {
		t.Error(got, e)
	}
	if got, e := zone.Pairs(table, 6, span(0, 9)); len(got) == 0 || !slices.Equal(got, wantPairs) || e != api.OK {
		t.Error(got, e)
	}
	if !reflect.DeepEqual(table, islands()) {
		t.Error("a table has changed", table)
	}
}

// TestEmpty is for R3: a nil list and an empty one are the same.
func TestEmpty(t *testing.T) {
	for _, steps := range [][]int{nil, {}} {
		for _, list := range [][][]int{nil, {}} {
			if e := zone.Check(api.ZoneTable{Steps: steps, Grades: list, Places: list}); e != api.ErrArg {
				t.Error("no rows", e)
			}
		}
		for _, row := range [][]int{nil, {}} {
			if e := zone.Check(api.ZoneTable{Steps: steps, Grades: [][]int{row}, Places: [][]int{row, row}}); e != api.ErrArg {
				t.Error("no steps", e)
			}
			if e := zone.Check(example(func(t *api.ZoneTable) { t.Grades[1] = row })); e != api.ErrForm {
				t.Error("no numbers", e)
			}
		}
	}
}
