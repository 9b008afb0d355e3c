// Package thread is layer 1: forms of threads, their widths and sections, the room between forms, and which forms agree with what was measured. See shared/doc/01-thread.md.
package thread

import (
	"acme/api"
	"acme/exact"
)

// shape is a form with what follows from it.
type shape struct {
	api.ThreadForm
	leans int // both leans together
	lead  int // how far a whole turn moves a nut
	hand  api.ThreadHand
}

// shapeOf returns the shape of a form, or the error of Check.
func shapeOf(f api.ThreadForm) (shape, api.Errno) {
	if e := Check(f); e != api.OK {
		return shape{}, e
	}
	return shape{ThreadForm: f, leans: f.Left + f.Right, lead: f.Pitch * f.Starts, hand: handName(f.LeftHand)}, api.OK
}

func handName(left bool) api.ThreadHand {
	return map[bool]api.ThreadHand{false: api.ThreadRight, true: api.ThreadLeft}[left]
}

// Check returns the error of a form.
func Check(f api.ThreadForm) api.Errno {
	if !inLimits(f) || f.Above+f.Below < 1 || !staysOpen(f) {
		return api.ErrArg
	}
	return api.OK
}

func inLimits(f api.ThreadForm) bool {
	return exact.AllFrom(api.MinThreadPitch, api.MaxThreadPitch, f.Pitch) &&
		exact.AllFrom(0, api.MaxThreadLean, f.Left, f.Right) &&
		exact.AllFrom(0, api.MaxThreadDepth, f.Above, f.Below) &&
		exact.AllFrom(1, api.MaxThreadStarts, f.Starts) &&
		exact.AllFrom(0, api.MaxThreadTaper, f.Taper)
}

// staysOpen reports whether neither the tooth nor the groove of a form within limits has a width below 0. The flanks are straight: the tooth is narrowest at the crest, the groove at the root.
func staysOpen(f api.ThreadForm) bool {
	return max(f.Above, f.Below)*(f.Left+f.Right) <= 500*f.Pitch
}

// Width returns the width of the tooth at a height.
func Width(f api.ThreadForm, y int) (api.Ratio, api.Errno) {
	s, e := shapeOf(f)
	if e != api.OK {
		return api.Ratio{}, e
	}
	if !exact.AllFrom(-s.Below, s.Above, y) {
		return api.Ratio{}, api.ErrRange
	}
	return exact.Ratio(500*s.Pitch-y*s.leans, 1000), api.OK
}

// Sharp returns the height at which both flanks would meet.
func Sharp(f api.ThreadForm) (api.Ratio, api.Errno) {
	s, e := shapeOf(f)
	if e != api.OK {
		return api.Ratio{}, e
	}
	if s.leans == 0 {
		return api.Ratio{}, api.ErrNone
	}
	return exact.Ratio(500*s.Pitch, s.leans), api.OK
}

// Area returns the area of the tooth's section between two heights.
func Area(f api.ThreadForm, from, to int) (api.Ratio, api.Errno) {
	s, e := shapeOf(f)
	if e != api.OK {
		return api.Ratio{}, e
	}
	if !exact.ValidSpan(api.Span{Low: from, High: to}, -s.Below, s.Above) {
		return api.Ratio{}, api.ErrRange
	}
	return exact.Ratio((to-from)*s.Pitch*1000-(to*to-from*from)*s.leans, 2000), api.OK
}
