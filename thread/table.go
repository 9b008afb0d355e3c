package thread

import (
	"iter"
	"slices"

	"acme/api"
	"acme/exact"
)

// measures is how many numbers of a form are measured.
const measures = 7

// Agree returns the forms of a table that agree with what was measured.
func Agree(table []api.ThreadForm, seen api.ThreadSeen) ([]int, api.Errno) {
	shapes, e := shapesOf(table)
	if e != api.OK {
		return nil, e
	}
	if !validSeen(seen) {
		return nil, api.ErrRange
	}
	var numbers []int
	for i, s := range shapes {
		if s.agrees(seen) {
			numbers = append(numbers, i)
		}
	}
	return numbers, api.OK
}

// Alike returns the pairs of forms of a table that measuring cannot tell apart.
func Alike(table []api.ThreadForm, errors api.ThreadErrors) ([][2]int, api.Errno) {
	shapes, e := shapesOf(table)
	if e != api.OK {
		return nil, e
	}
	if !exact.AllFrom(0, api.MaxLength, errors.Pitch, errors.Lean, errors.Depth) {
		return nil, api.ErrRange
	}
	var pairs [][2]int
	for later := range shapes {
		for earlier := range later {
			if shapes[earlier].alike(shapes[later], errors) {
				pairs = append(pairs, [2]int{earlier, later})
			}
		}
	}
	slices.SortFunc(pairs, func(a, b [2]int) int { return slices.Compare(a[:], b[:]) })
	return pairs, api.OK
}

// shapesOf returns the shapes of a table, or the error of the table.
func shapesOf(table []api.ThreadForm) ([]shape, api.Errno) {
	if len(table) > api.MaxThreadTable {
		return nil, api.ErrLong
	}
	shapes := make([]shape, 0, len(table))
	for _, f := range table {
		s, e := shapeOf(f)
		if e != api.OK {
			return nil, e
		}
		shapes = append(shapes, s)
	}
	return shapes, api.OK
}

// values returns the numbers of a shape that are measured, in the order of spans.
func (s shape) values() [measures]int {
	return [measures]int{s.Pitch, s.Left, s.Right, s.Above, s.Below, s.Starts, s.Taper}
}

// spans returns what was seen of each measured number, in the order of values.
func spans(seen api.ThreadSeen) [measures]api.Span {
	return [measures]api.Span{seen.Pitch, seen.Left, seen.Right, seen.Above, seen.Below, seen.Starts, seen.Taper}
}

func validSeen(seen api.ThreadSeen) bool {
	for _, span := range spans(seen) {
		if !exact.ValidSpan(span, 0, api.MaxLength) {
			return false
		}
	}
	return exact.AllFrom(int(api.ThreadAny), int(api.ThreadLeft), int(seen.Hand))
}

// measured yields each measured number of a shape with what was seen of it.
func (s shape) measured(seen api.ThreadSeen) iter.Seq2[int, api.Span] {
	return func(yield func(int, api.Span) bool) {
		values := s.values()
		for i, span := range spans(seen) {
			if !yield(values[i], span) {
				return
			}
		}
	}
}

func (s shape) agrees(seen api.ThreadSeen) bool {
	if seen.Hand != api.ThreadAny && seen.Hand != s.hand {
		return false
	}
	for value, span := range s.measured(seen) {
		if !exact.AllFrom(span.Low, span.High, value) {
			return false
		}
	}
	return true
}

// alike reports whether one measuring with such errors can agree with both shapes.
func (s shape) alike(o shape, errors api.ThreadErrors) bool {
	// Both numbers can be wrong, each toward the other one.
	near := func(a, b, wrong int) bool { return exact.AllFrom(-2*wrong, 2*wrong, a-b) }
	return near(s.Pitch, o.Pitch, errors.Pitch) &&
		near(s.Left, o.Left, errors.Lean) && near(s.Right, o.Right, errors.Lean) &&
		near(s.Above, o.Above, errors.Depth) && near(s.Below, o.Below, errors.Depth) &&
		s.turnsLike(o)
}
