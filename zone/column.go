package zone

import (
	"iter"
	"slices"

	"acme/api"
)

// span is a span of diameters, or of plays.
type span struct{ api.Span }

func spanOf(low, high int) span { return span{api.Span{Low: low, High: high}} }

func (s span) empty() bool { return s.High < s.Low }

func (s span) within(o span) bool { return o.Low <= s.Low && s.High <= o.High }

// playIn returns all plays of screws of a span in nuts of another one.
func (s span) playIn(nuts span) span { return spanOf(nuts.Low-s.High, nuts.High-s.Low) }

// column is a valid table with the step whose numbers count.
type column struct {
	api.ZoneTable
	step int
}

// columnOf returns the column of a valid table to which a size belongs.
func columnOf(t api.ZoneTable, size int) (column, api.Errno) {
	step, _ := slices.BinarySearch(t.Steps, size)
	if size < 1 || step == len(t.Steps) {
		return column{}, api.ErrRange
	}
	return column{t, step}, api.OK
}

func (c column) allowance(class api.ZoneClass) int { return c.Places[class.Place][c.step] }

func (c column) width(class api.ZoneClass) int { return c.Grades[class.Grade][c.step] }

// zone returns the zone of a class that the column has.
func (c column) zone(class api.ZoneClass, nut bool, size int) span {
	if nut {
		low := size + c.allowance(class)
		return spanOf(low, low+c.width(class))
	}
	high := size - c.allowance(class)
	return spanOf(high-c.width(class), high)
}

// classes yields all classes, in ascending order.
func (c column) classes() iter.Seq[api.ZoneClass] {
	return func(yield func(api.ZoneClass) bool) {
		for place := range c.Places {
			for grade := range c.Grades {
				if !yield(api.ZoneClass{Place: place, Grade: grade}) {
					return
				}
			}
		}
	}
}
