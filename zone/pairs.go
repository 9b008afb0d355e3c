package zone

import (
	"acme/api"
	"acme/exact"
)

// Pairs returns all pairs whose play lies in a span.
func Pairs(t api.ZoneTable, size int, want api.Span) ([]api.ZonePair, api.Errno) {
	c, e := checkedColumn(t, size, want)
	if e != api.OK {
		return nil, e
	}
	return c.pairs(size, span{want}), api.OK
}

// Widest returns the pair of these whose zones are the widest together.
func Widest(t api.ZoneTable, size int, want api.Span) (api.ZonePair, api.Errno) {
	c, e := checkedColumn(t, size, want)
	if e != api.OK {
		return api.ZonePair{}, e
	}
	pairs := c.pairs(size, span{want})
	if len(pairs) == 0 {
		return api.ZonePair{}, api.ErrNone
	}
	widths := func(p api.ZonePair) int { return c.width(p.Screw) + c.width(p.Nut) }
	widest := pairs[0]
	for _, p := range pairs[1:] {
		if widths(p) > widths(widest) {
			widest = p
		}
	}
	return widest, api.OK
}

// checkedColumn returns the column of a table to which a size belongs, or the error of Pairs.
func checkedColumn(t api.ZoneTable, size int, want api.Span) (column, api.Errno) {
	if e := Check(t); e != api.OK {
		return column{}, e
	}
	c, e := columnOf(t, size)
	if e != api.OK {
		return column{}, e
	}
	if !exact.ValidSpan(want, -4*api.MaxZoneWidth, 4*api.MaxZoneWidth) {
		return column{}, api.ErrArg
	}
	return c, api.OK
}

// pairs returns the pairs of a size whose play lies in a span, in ascending order.
func (c column) pairs(size int, want span) []api.ZonePair {
	var pairs []api.ZonePair
	for screw := range c.classes() {
		screws := c.zone(screw, false, size)
		for nut := range c.classes() {
			if screws.playIn(c.zone(nut, true, size)).within(want) {
				pairs = append(pairs, api.ZonePair{Screw: screw, Nut: nut})
			}
		}
	}
	return pairs
}

// Within returns the sizes for which one zone lies within another one.
func Within(t api.ZoneTable, a, b api.ZoneClass, nut bool) ([]api.Span, api.Errno) {
	if e := Check(t); e != api.OK {
		return nil, e
	}
	if !hasClasses(t, a, b) {
		return nil, api.ErrNone
	}
	var sizes []api.Span
	first := 1
	for step, last := range t.Steps {
		// Both zones move with the size, so one size of a step stands for all.
		c := column{t, step}
		if c.zone(a, nut, last).within(c.zone(b, nut, last)) {
			sizes = joined(sizes, api.Span{Low: first, High: last})
		}
		first = last + 1
	}
	return sizes, api.OK
}

// joined returns a list of spans with a further one, which becomes part of the last one if it follows at once.
func joined(spans []api.Span, next api.Span) []api.Span {
	last := len(spans) - 1
	if last >= 0 && spans[last].High+1 == next.Low {
		spans[last].High = next.High
		return spans
	}
	return append(spans, next)
}
