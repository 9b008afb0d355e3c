package lead

import (
	"acme/api"
	"acme/exact"
)

// Split parts errors that are known exactly into those of turns and of angles.
func Split(errors []int, angles int) (turns, drunk []int, e api.Errno) {
	if !exact.AllFrom(1, api.MaxLeadAngles, angles) {
		return nil, nil, api.ErrRange
	}
	last := len(errors) - 1
	if last%angles != 0 || !exact.AllFrom(angles, (api.MaxLeadTurns-1)*angles, last) {
		return nil, nil, api.ErrForm
	}
	if !exact.AllFrom(-api.MaxLeadError, api.MaxLeadError, errors...) {
		return nil, nil, api.ErrRange
	}
	for step := 0; step <= last; step += angles {
		turns = append(turns, errors[step])
	}
	drunk = drunkOf(turns, errors[:angles])
	if !exact.AllFrom(-api.MaxLeadError, api.MaxLeadError, drunk...) || !known(turns, drunk).has(errors) {
		return nil, nil, api.ErrState
	}
	return turns, drunk, api.OK
}

// known returns the cutter of a screw of which all is known, without notches.
func known(turns, drunk []int) cutter {
	s := api.LeadScrew{Drunk: drunk}
	for _, turn := range turns {
		s.Turns = append(s.Turns, api.Span{Low: turn, High: turn})
	}
	return cutter{LeadScrew: s}
}

// drunkOf returns the only errors at angles, rounded down, that agree with the errors of the first turn.
func drunkOf(turns, errors []int) []int {
	sober := known(turns, make([]int, len(errors)))
	var drunk []int
	for angle, wrong := range errors {
		more := wrong*sober.angles() - sober.errorAt(angle).Low
		drunk = append(drunk, exact.RoundDown(more, sober.angles()))
	}
	return drunk
}

// has reports whether the errors at all steps are surely these.
func (c cutter) has(errors []int) bool {
	for step, wrong := range errors {
		parts := wrong * c.angles()
		if c.errorAt(step) != (api.Span{Low: parts, High: parts}) {
			return false
		}
	}
	return true
}
