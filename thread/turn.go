package thread

import (
	"acme/api"
	"acme/exact"
)

// Advance returns how far a nut moves that is turned by an angle.
func Advance(f api.ThreadForm, angle int) (api.Ratio, api.Errno) {
	s, e := shapeOf(f)
	if e != api.OK {
		return api.Ratio{}, e
	}
	if !exact.AllFrom(-api.MaxThreadAngle, api.MaxThreadAngle, angle) {
		return api.Ratio{}, api.ErrRange
	}
	if s.LeftHand {
		angle = -angle
	}
	return exact.Ratio(s.lead*angle, api.Whole), api.OK
}

// PerInch returns how many pitches there are in an inch.
func PerInch(f api.ThreadForm) (api.Ratio, api.Errno) {
	s, e := shapeOf(f)
	if e != api.OK {
		return api.Ratio{}, e
	}
	return exact.Ratio(api.ThreadInch, s.Pitch), api.OK
}

// Diameter returns the pitch diameter at the distance x from the small end, where it is d.
func Diameter(f api.ThreadForm, d, x int) (api.Ratio, api.Errno) {
	s, e := shapeOf(f)
	if e != api.OK {
		return api.Ratio{}, e
	}
	if !exact.AllFrom(1, api.MaxLength, d) || !exact.AllFrom(0, api.MaxLength, x) {
		return api.Ratio{}, api.ErrRange
	}
	return exact.Ratio(1000*d+2*x*s.Taper, 1000), api.OK
}

// Meets returns after how many turns a tapered screw meets its ring.
func Meets(f api.ThreadForm, screw, ring int) (turns api.Ratio, e api.Errno) {
	s, e := shapeOf(f)
	if e != api.OK {
		return api.Ratio{}, e
	}
	if !exact.ValidSpan(api.Span{Low: screw, High: ring}, 1, api.MaxLength) {
		return api.Ratio{}, api.ErrRange
	}
	if s.Taper == 0 {
		return api.Ratio{}, api.ErrNone
	}
	return exact.Ratio((ring-screw)*500, s.Taper*s.lead), api.OK
}
