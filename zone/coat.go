package zone

import (
	"acme/api"
	"acme/exact"
)

// Before returns the limits before plating.
func Before(s api.Span, nut bool, c api.ZoneCoat) (api.Span, api.Errno) {
	if !validPlating(s, c) {
		return api.Span{}, api.ErrArg
	}
	change := changeBy(c, nut)
	before := spanOf(s.Low-change.Low, s.High-change.High)
	if before.empty() {
		return api.Span{}, api.ErrState
	}
	return before.Span, api.OK
}

// After returns what can be after plating.
func After(s api.Span, nut bool, c api.ZoneCoat) (api.Span, api.Errno) {
	if !validPlating(s, c) {
		return api.Span{}, api.ErrArg
	}
	change := changeBy(c, nut)
	return spanOf(s.Low+change.Low, s.High+change.High).Span, api.OK
}

func validPlating(s api.Span, c api.ZoneCoat) bool {
	return exact.ValidSpan(s, -2*api.MaxLength, 2*api.MaxLength) &&
		exact.ValidSpan(c.Thick, 0, api.MaxZoneThick) &&
		exact.AllFrom(1, api.MaxZoneGrow, c.Grow.Num, c.Grow.Den)
}

// changeBy returns the smallest span of integers that has all changes of a diameter by a coat. The diameters at the ends are integers, so rounding the change is rounding what they become.
func changeBy(c api.ZoneCoat, nut bool) span {
	thin := exact.RoundDown(c.Thick.Low*c.Grow.Num, c.Grow.Den)
	thick := exact.RoundUp(c.Thick.High*c.Grow.Num, c.Grow.Den)
	if nut {
		return spanOf(-thick, -thin)
	}
	return spanOf(thin, thick)
}
