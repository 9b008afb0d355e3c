package wires

import (
	"cmp"
	"slices"

	"acme/api"
)

// maxSize is how far from 0 a size can be.
const maxSize = 2 * api.MaxLength

// span is all integers from Low to High.
type span api.Span

func (s span) width() int { return s.High - s.Low }

func (s span) has(n int) bool { return s.Low <= n && n <= s.High }

// integers yields the integers of a span, in ascending order.
func (s span) integers(yield func(int) bool) {
	for n := s.Low; n <= s.High; n++ {
		if !yield(n) {
			return
		}
	}
}

// sizes are spans in ascending order, with at least one other integer between each and the next one.
type sizes []api.Span

// allSizes returns all sizes that there are: no reading at all agrees with each of them.
func allSizes() sizes { return sizes{{Low: -maxSize, High: maxSize}} }

// joined returns the integers of spans, which it puts in order.
func joined(spans []api.Span) sizes {
	slices.SortFunc(spans, func(a, b api.Span) int { return cmp.Compare(a.Low, b.Low) })
	var l sizes
	for _, s := range spans {
		last := len(l) - 1
		if last >= 0 && s.Low <= l[last].High+1 {
			l[last].High = max(l[last].High, s.High)
			continue
		}
		l = append(l, s)
	}
	return l
}

// and returns the sizes that are among others, too.
func (l sizes) and(others sizes) sizes {
	var both sizes
	for len(l) > 0 && len(others) > 0 {
		low, high := max(l[0].Low, others[0].Low), min(l[0].High, others[0].High)
		if low <= high {
			both = append(both, api.Span{Low: low, High: high})
		}
		if l[0].High < others[0].High {
			l = l[1:]
		} else {
			others = others[1:]
		}
	}
	return both
}

func (l sizes) has(size int) bool {
	return slices.ContainsFunc(l, func(s api.Span) bool { return span(s).has(size) })
}
