package lead

import (
	"iter"
	"sort"

	"acme/api"
	"acme/exact"
)

// cutter is a lead screw with the notches of its corrector. Its errors are in parts of a unit, as many as a turn has steps: so all of them are integers.
type cutter struct {
	api.LeadScrew
	notches []api.LeadNotch
}

// cutterOf returns the cutter of a screw and of notches, or the error of one of them.
func cutterOf(s api.LeadScrew, l []api.LeadNotch) (cutter, api.Errno) {
	if e := Check(s); e != api.OK {
		return cutter{}, e
	}
	if len(l) > api.MaxLeadNotches {
		return cutter{}, api.ErrLong
	}
	c := cutter{s, l}
	if !c.validNotches() {
		return cutter{}, api.ErrArg
	}
	return c, api.OK
}

func (c cutter) validNotches() bool {
	before := -1
	for _, notch := range c.notches {
		if !c.hasSteps(notch.From) || notch.From <= before || !exact.AllFrom(-api.MaxLeadCut, api.MaxLeadCut, notch.Add) {
			return false
		}
		before = notch.From
	}
	return true
}

// angles returns how many steps a turn has.
func (c cutter) angles() int { return len(c.Drunk) }

func (c cutter) lastStep() int { return (len(c.Turns) - 1) * c.angles() }

// hasSteps reports whether there are all these steps.
func (c cutter) hasSteps(steps ...int) bool { return exact.AllFrom(0, c.lastStep(), steps...) }

// moved returns by how much the corrector moves the nut at a step.
func (c cutter) moved(step int) int {
	beyond := func(i int) bool { return c.notches[i].From > step }
	passed := sort.Search(len(c.notches), beyond)
	if passed == 0 {
		return 0
	}
	return c.notches[passed-1].Add
}

// stop is a step at which the nut is, and whether it was reached from above.
type stop struct {
	step  int
	above bool
}

// sum is a sum of errors: what is known of it, and how many parts of a unit it has for each unit of a turn's error, and of the backlash.
type sum struct {
	known  int
	shares map[int]int // by the numbers of turns
	lash   int
}

// add adds the error at a stop, so many times.
func (c cutter) add(s *sum, at stop, times int) {
	turn, angle := at.step/c.angles(), at.step%c.angles()
	s.known += times * c.angles() * (c.Drunk[angle] + c.moved(at.step))
	s.shares[turn] += times * (c.angles() - angle)
	if angle > 0 {
		// Just then is there surely a next turn.
		s.shares[turn+1] += times * angle
	}
	if at.above {
		s.lash += times * c.angles()
	}
}

// ends returns the least and the greatest value that a sum has in a truth. No turn depends on another one, so each can be at the end that counts.
func (c cutter) ends(s sum) api.Span {
	ends := api.Span{Low: s.known, High: s.known}
	widen := func(by api.Span, share int) {
		ends.Low += min(share*by.Low, share*by.High)
		ends.High += max(share*by.Low, share*by.High)
	}
	for turn, share := range s.shares {
		widen(c.Turns[turn], share)
	}
	widen(c.Lash, s.lash)
	return ends
}

// errorAt returns the errors at a step that was reached from below.
func (c cutter) errorAt(step int) api.Span {
	s := sum{shares: map[int]int{}}
	c.add(&s, stop{step: step}, 1)
	return c.ends(s)
}

// errorOf returns the errors of the distance from one stop to another one.
func (c cutter) errorOf(pair [2]stop) api.Span {
	s := sum{shares: map[int]int{}}
	c.add(&s, pair[0], -1)
	c.add(&s, pair[1], 1)
	return c.ends(s)
}

// errorsOf yields the errors of each distance of a way.
func (c cutter) errorsOf(way []int) iter.Seq[api.Span] {
	return func(yield func(api.Span) bool) {
		var before stop
		for i, step := range way {
			now := stop{step, before.above}
			if i == 0 {
				before = now
				continue
			}
			if step != before.step {
				now.above = step < before.step
			}
			if !yield(c.errorOf([2]stop{before, now})) {
				return
			}
			before = now
		}
	}
}

// pairs yields each pair of steps, the second of which is not below the first, in ascending order.
func pairs(from, to int) iter.Seq[[2]int] {
	return func(yield func([2]int) bool) {
		for first := from; first <= to; first++ {
			for second := first; second <= to; second++ {
				if !yield([2]int{first, second}) {
					return
				}
			}
		}
	}
}

// worst returns the worst errors of the distances upward between some steps.
func (c cutter) worst(from, to int) api.LeadWorst {
	// The first pair is one step twice, whose distance is surely 0.
	first := [2]int{from, from}
	worst := api.LeadWorst{LowAt: first, HighAt: first}
	var parts api.Span
	for pair := range pairs(from, to) {
		errors := c.errorOf([2]stop{{step: pair[0]}, {step: pair[1]}})
		if errors.Low < parts.Low {
			parts.Low, worst.LowAt = errors.Low, pair
		}
		if errors.High > parts.High {
			parts.High, worst.HighAt = errors.High, pair
		}
	}
	units := c.units(parts)
	worst.Low, worst.High = units.Low, units.High
	return worst
}

// units returns errors in units, rounded outward.
func (c cutter) units(parts api.Span) api.Span {
	return api.Span{Low: exact.RoundDown(parts.Low, c.angles()), High: exact.RoundUp(parts.High, c.angles())}
}
