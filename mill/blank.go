package mill

import (
	"acme/api"
	"acme/exact"
)

// volume returns the volume of a part, as long as it is wide and long from 1 on.
func volume(wide, long int) int { return wide * wide * long }

// piece returns the volume of all parts, or the error of them and of the wire.
func piece(l []api.MillPart, wire api.Span) (int, api.Errno) {
	if len(l) > api.MaxMillParts {
		return 0, api.ErrLong
	}
	if len(l) == 0 {
		return 0, api.ErrArg
	}
	sum := 0
	for _, part := range l {
		if !exact.AllFrom(1, api.MaxMillWire, part.Wide) || !exact.AllFrom(1, api.MaxLength, part.Long) {
			return 0, api.ErrArg
		}
		sum += volume(part.Wide, part.Long)
	}
	if !exact.ValidSpan(wire, 1, api.MaxMillWire) {
		return 0, api.ErrRange
	}
	return sum, api.OK
}

// Blank returns how long blanks of wire must be.
func Blank(l []api.MillPart, wire api.Span) (api.Span, api.Errno) {
	whole, e := piece(l, wire)
	if e != api.OK {
		return api.Span{}, e
	}
	return api.Span{Low: exact.RoundDown(whole, volume(wire.High, 1)), High: exact.RoundUp(whole, volume(wire.Low, 1))}, api.OK
}

// Spare returns how much is left over of blanks.
func Spare(l []api.MillPart, wire, cut api.Span) (api.Span, api.Errno) {
	whole, e := piece(l, wire)
	if e != api.OK {
		return api.Span{}, e
	}
	if !exact.ValidSpan(cut, 1, api.MaxLength) {
		return api.Span{}, api.ErrRange
	}
	return api.Span{Low: volume(wire.Low, cut.Low) - whole, High: volume(wire.High, cut.High) - whole}, api.OK
}
