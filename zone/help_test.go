package zone_test

import (
	"math"
	"slices"

	"acme/api"
)

// example returns the table of the chapter's examples, changed.
func example(changes ...func(t *api.ZoneTable)) api.ZoneTable {
	t := api.ZoneTable{
		Steps:  []int{30000, 60000, 100000},
		Grades: [][]int{{100, 120, 150}, {200, 250, 300}},
		Places: [][]int{{0, 0, 0}, {30, 40, 50}},
	}
	for _, c := range changes {
		c(&t)
	}
	return t
}

// small returns a table with few sizes, in which zones lie on both sides of the size and some have no width.
func small() api.ZoneTable {
	return api.ZoneTable{
		Steps:  []int{1, 3, 4, 9, 10},
		Grades: [][]int{{1, 2, 0, 3, 2}, {2, 2, 1, 4, 0}, {0, 0, 0, 0, 0}, {3, 1, 5, 4, 9}},
		Places: [][]int{{0, 0, 0, 0, 0}, {-1, 2, -3, 1, 0}, {2, 1, 0, -1, -2}},
	}
}

// largest returns a table that reaches all limits.
func largest() api.ZoneTable {
	steps := make([]int, api.MaxZoneSteps)
	for i := range steps {
		steps[i] = api.MaxLength - api.MaxZoneSteps + 1 + i
	}
	t := api.ZoneTable{Steps: steps}
	for i := range api.MaxZoneRows {
		allowance := api.MaxZoneWidth
		if i%2 == 1 {
			allowance = -allowance
		}
		t.Grades = append(t.Grades, slices.Repeat([]int{api.MaxZoneWidth * (i % 2)}, len(steps)))
		t.Places = append(t.Places, slices.Repeat([]int{allowance}, len(steps)))
	}
	return t
}

// smallest returns a table with as little as there may be.
func smallest() api.ZoneTable {
	return api.ZoneTable{Steps: []int{1}, Grades: [][]int{{0}}, Places: [][]int{{0}}}
}

func tables() []api.ZoneTable {
	return []api.ZoneTable{example(), small(), largest(), smallest()}
}

// classesOf returns all classes of a table, in ascending order.
func classesOf(t api.ZoneTable) []api.ZoneClass {
	var l []api.ZoneClass
	for place := range t.Places {
		for grade := range t.Grades {
			l = append(l, class(place, grade))
		}
	}
	return l
}

// missingClasses returns classes of which a table with two grades and two places has not both numbers.
func missingClasses() []api.ZoneClass {
	l := []api.ZoneClass{class(2, 0), class(0, 2), class(-1, 0), class(0, -1), class(2, 2), class(-1, 2)}
	for _, n := range extremes() {
		if n < 0 || n > 1 {
			l = append(l, class(n, 1), class(1, n), class(n, n))
		}
	}
	return l
}

// someSizes returns sizes of all steps of a table, with both ends of each.
func someSizes(t api.ZoneTable) []int {
	l := []int{1}
	for _, step := range t.Steps {
		l = append(l, max(step-1, 1), step, min(step+1, t.Steps[len(t.Steps)-1]))
	}
	return l
}

// extremes are numbers for which careless arithmetic does not fit.
func extremes() []int {
	return []int{math.MinInt, math.MinInt + 1, -1 << 40, -1, 0, 1, 1 << 40, math.MaxInt - 1, math.MaxInt}
}

// badSpans returns spans that are not valid from low to high.
func badSpans(low, high int) []api.Span {
	l := []api.Span{
		span(low-1, high), span(low, high+1), span(low-1, low-1), span(high+1, high+1),
		span(low+1, low), span(high, low), span(high, high-1),
	}
	for _, n := range extremes() {
		if n < low || n > high {
			l = append(l, span(n, low), span(n, high), span(low, n), span(high, n), span(n, n))
		}
	}
	return l
}

func span(low, high int) api.Span { return api.Span{Low: low, High: high} }

func class(place, grade int) api.ZoneClass { return api.ZoneClass{Place: place, Grade: grade} }

func pair(screw, nut api.ZoneClass) api.ZonePair { return api.ZonePair{Screw: screw, Nut: nut} }

func coat(low, high, num, den int) api.ZoneCoat {
	return api.ZoneCoat{Thick: span(low, high), Grow: api.Ratio{Num: num, Den: den}}
}

func lies(a, b api.Span) bool { return b.Low <= a.Low && a.High <= b.High }
