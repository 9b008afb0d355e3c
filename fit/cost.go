package fit

import (
	"acme/api"
	"acme/exact"
)

// Cost returns between which sizes screws within rules lie.
func Cost(f api.ThreadForm, r api.FitRules, turns int, depth api.Span) (api.Span, api.Errno) {
	form, e := idealOf(f)
	if e != api.OK {
		return api.Span{}, e
	}
	if !exact.AllFrom(1, api.MaxFitTurns, turns) {
		return api.Span{}, api.ErrRange
	}
	if !validRules(r) {
		return api.Span{}, api.ErrArg
	}
	if e := checkAll(depth); e != api.OK {
		return api.Span{}, e
	}
	if form.leans == 0 {
		return api.Span{}, api.ErrNone
	}
	return form.sizes(r, turns, exact.Heights{Span: depth}), api.OK
}

func validRules(r api.FitRules) bool {
	return exact.ValidSpan(r.Step, -api.MaxFitError, api.MaxFitError) &&
		exact.ValidSpan(r.Thick, 0, api.MaxThreadPitch) &&
		exact.ValidSpan(r.Left, 0, api.MaxThreadLean) &&
		exact.ValidSpan(r.Right, 0, api.MaxThreadLean)
}

// sizes returns the least and the greatest size of a screw within rules. What steps, widths and leans need adds up, and no screw needs more, or less, of them than one whose steps are all the same, and whose widths are.
func (i ideal) sizes(r api.FitRules, turns int, over exact.Heights) api.Span {
	steps := needs(r.Step, 0, func(step int) int { return 1000 * (turns - 1) * max(step, -step) })
	widths := needs(r.Thick, r.Thick.Low, func(width int) int { return 1000 * width })
	lefts := needs(r.Left, i.Left, func(lean int) int { return over.Overlap(lean, i.Left) })
	rights := needs(r.Right, i.Right, func(lean int) int { return over.Overlap(lean, i.Right) })
	end := func(need int) int { return exact.RoundUp(need-500*i.Pitch, i.leans) }
	return api.Span{
		Low:  end(steps.Low + widths.Low + lefts.Low + rights.Low),
		High: end(steps.High + widths.High + lefts.High + rights.High),
	}
}

// needs returns the least and the greatest need of an integer of a span. It is convex and straight on each side of the bend, so the ends and the integer nearest to the bend decide.
func needs(s api.Span, bend int, need func(int) int) api.Span {
	low, nearest, high := need(s.Low), need(min(max(bend, s.Low), s.High)), need(s.High)
	return api.Span{Low: min(low, nearest, high), High: max(low, high)}
}
