package thread_test

import (
	"math"
	"reflect"
	"slices"
	"testing"

	"acme/api"
	"acme/thread"
)

// TestTerminates is for P1: no function panics, whatever its arguments are.
func TestTerminates(t *testing.T) {
	for _, n := range extremes() {
		for _, m := range extremes() {
			for _, f := range []api.ThreadForm{metric(), metric(taper(50), leftHand()), {Pitch: n, Left: m, Right: n, Above: m, Below: n, Starts: m, Taper: n}} {
				thread.Check(f)
				thread.Width(f, n)
				thread.Sharp(f)
				thread.Area(f, n, m)
				thread.Advance(f, n)
				thread.PerInch(f)
				thread.Diameter(f, n, m)
				thread.Meets(f, n, m)
				thread.Room(f, metric(), span(n, m))
				thread.Room(metric(), f, span(n, m))
				s := span(n, m)
				thread.Agree([]api.ThreadForm{f, metric()}, api.ThreadSeen{Pitch: s, Left: s, Right: s, Above: s, Below: s, Starts: s, Taper: s, Hand: api.ThreadHand(n)})
				thread.Alike([]api.ThreadForm{f, metric()}, api.ThreadErrors{Pitch: n, Lean: m, Depth: n})
			}
		}
	}
}

// allAnswers returns the results of all functions for one table.
func allAnswers(table []api.ThreadForm) []any {
	var l []any
	add := func(values ...any) { l = append(l, values...) }
	for _, f := range table {
		add(thread.Check(f))
		add(first(thread.Width(f, 1)), first(thread.Sharp(f)), first(thread.Area(f, 0, 1)), first(thread.Advance(f, 12345)))
		add(first(thread.PerInch(f)), first(thread.Diameter(f, 500, 33)), first(thread.Meets(f, 10, 99)))
		add(first(thread.Room(f, table[0], span(-9, 9))), first(thread.Room(table[0], f, span(-9, 9))))
	}
	add(first(thread.Agree(table, wide())), first(thread.Alike(table, api.ThreadErrors{Pitch: 500, Lean: 50, Depth: 50})))
	return l
}

// first keeps a result and its error together.
func first[T any](value T, e api.Errno) any { return [2]any{value, e} }

// TestEqualResults is for P2 and R4: equal arguments have equal results, whatever was called before, and no argument is changed.
func TestEqualResults(t *testing.T) {
	table := slices.Concat(exampleTable(), forms())
	before := slices.Clone(table)
	once := allAnswers(table)
	wrong := slices.Concat(forms()[3:6], badForms()[:5])
	wrongBefore := slices.Clone(wrong)
	allAnswers(wrong)
	if twice := allAnswers(table); !reflect.DeepEqual(once, twice) {
		t.Error("results differ", once, twice)
	}
	if !slices.Equal(table, before) || !slices.Equal(wrong, wrongBefore) {
		t.Error("a table has changed", table, wrong)
	}
}

// TestNewMemory is for R4: a result shares no memory with another one.
func TestNewMemory(t *testing.T) {
	table := exampleTable()
	numbers, _ := thread.Agree(table, wide())
	pairs, _ := thread.Alike(table, api.ThreadErrors{Pitch: 50, Lean: 12})
	for i := range numbers {
		numbers[i] = math.MaxInt
	}
	for i := range pairs {
		pairs[i] = [2]int{math.MaxInt, math.MaxInt}
	}
	if got, e := thread.Agree(table, wide()); !slices.Equal(got, []int{0, 1, 2}) || e != api.OK {
		t.Error(got, e)
	}
	if got, e := thread.Alike(table, api.ThreadErrors{Pitch: 50, Lean: 12}); !slices.Equal(got, [][2]int{{0, 1}, {0, 2}, {1, 2}}) || e != api.OK {
		t.Error(got, e)
	}
}

// TestEmpty is for R3: a nil table and an empty one are the same.
func TestEmpty(t *testing.T) {
	for _, table := range [][]api.ThreadForm{nil, {}} {
		if l, e := thread.Agree(table, wide()); len(l) != 0 || e != api.OK {
			t.Error(l, e)
		}
		if l, e := thread.Alike(table, api.ThreadErrors{}); len(l) != 0 || e != api.OK {
			t.Error(l, e)
		}
	}
}
