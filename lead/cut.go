package lead

import (
	"sort"

	"acme/api"
	"acme/exact"
)

// Cut returns the fewest notches that keep all errors within a limit.
func Cut(s api.LeadScrew, limit int) ([]api.LeadNotch, api.Errno) {
	c, e := cutterOf(s, nil)
	if e != api.OK {
		return nil, e
	}
	if !exact.AllFrom(0, api.MaxLeadLimit, limit) {
		return nil, api.ErrRange
	}
	return cut(c.errors(), limit)
}

// Least returns the least limit for which so many notches are enough.
func Least(s api.LeadScrew, many int) (int, api.Errno) {
	c, e := cutterOf(s, nil)
	if e != api.OK {
		return 0, e
	}
	if !exact.AllFrom(0, api.MaxLeadNotches, many) {
		return 0, api.ErrRange
	}
	errors := c.errors()
	// What is right within a limit is right within a greater one.
	enough := func(limit int) bool {
		notches, e := cut(errors, limit)
		return e == api.OK && len(notches) <= many
	}
	least := sort.Search(api.MaxLeadLimit+1, enough)
	if least > api.MaxLeadLimit {
		return 0, api.ErrNone
	}
	return least, api.OK
}

// errors returns the errors at all steps, in units: limits and what notches add are integers, so errors that are rounded outward are within a limit just if the exact ones are.
func (c cutter) errors() []api.Span {
	var errors []api.Span
	for step := 0; step <= c.lastStep(); step++ {
		errors = append(errors, c.units(c.errorAt(step)))
	}
	return errors
}

// cut returns the fewest notches that keep errors within a limit, or ErrNone. Each notch holds as long as one Add is right: so the next one comes as late as it can, and the fewest are left to come.
func cut(errors []api.Span, limit int) ([]api.LeadNotch, api.Errno) {
	var notches []api.LeadNotch
	var right api.Span // what can be added since the last notch; before the first one it is just 0
	for step, wrong := range errors {
		here := api.Span{Low: -limit - wrong.Low, High: limit - wrong.High}
		if here.Low > here.High {
			return nil, api.ErrNone
		}
		right = exact.Common(right, here)
		if right.Low > right.High {
			notches, right = append(notches, api.LeadNotch{From: step}), here
		}
		if last := len(notches) - 1; last >= 0 {
			// No error is beyond MaxLeadCut, so this is not beyond it either.
			notches[last].Add = nearestToZero(right)
		}
	}
	if len(notches) > api.MaxLeadNotches {
		return nil, api.ErrNone
	}
	return notches, api.OK
}

func nearestToZero(s api.Span) int { return max(s.Low, min(0, s.High)) }
