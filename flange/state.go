package flange

import (
	"iter"

	"acme/api"
	"acme/bolt"
	"acme/exact"
)

// flange is a flange whose rules are as they should be.
type flange struct{ api.FlangeRules }

// flangeOf returns the flange of some rules, or their error.
func flangeOf(r api.FlangeRules) (flange, api.Errno) {
	if e := Check(r); e != api.OK {
		return flange{}, e
	}
	return flange{r}, api.OK
}

// state is what is known after some steps: the force of each bolt, what each has lost since it was tightened last, and the greatest force that one can have had. A copy of it is a state of its own.
type state struct {
	forces, lost [api.MaxFlangeBolts]api.Span
	most         int
}

// tight reports whether each bolt surely has the force that it needs.
func (f flange) tight(now state) bool {
	for _, force := range now.forces[:f.Bolts] {
		if force.Low < f.Need {
			return false
		}
	}
	return true
}

// safe reports whether no bolt can have been beyond its yield.
func (f flange) safe(now state) bool { return now.most <= f.Kind.Yield.Low }

// alone returns the force that a torque gives a bolt without others.
func (f flange) alone(torque int) (api.Span, api.Errno) {
	force, e := bolt.Force(f.Kind, api.BoltWay{Kind: api.BoltTorque, Torque: api.Span{Low: torque, High: torque}})
	// The kind of bolt has no error: if there is one, it is that of the torque.
	if e != api.OK || force.High > api.MaxBoltForce {
		return api.Span{}, api.ErrRange
	}
	return force, api.OK
}

// others yields all bolts but one, and the share that each of them loses of what this one gains.
func (f flange) others(number int) iter.Seq2[int, int] {
	return func(yield func(int, int) bool) {
		for other := range f.Bolts {
			apart := max(other-number, number-other)
			if apart > 0 && !yield(other, f.Share[min(apart, f.Bolts-apart)-1]) {
				return
			}
		}
	}
}

// tightened returns what is known after a step on a bolt that would have some force without others.
func (f flange) tightened(now state, number int, alone api.Span) state {
	had := now.forces[number]
	force := api.Span{Low: max(alone.Low, had.Low), High: max(alone.High, had.High)}
	gain := api.Span{Low: max(alone.Low-had.High, 0), High: max(alone.High-had.Low, 0)}
	now.forces[number], now.lost[number] = force, api.Span{}
	for other, share := range f.others(number) {
		loss := api.Span{Low: exact.RoundDown(gain.Low*share, 1000), High: exact.RoundUp(gain.High*share, 1000)}
		left, lost := now.forces[other], now.lost[other]
		now.forces[other] = api.Span{Low: max(left.Low-loss.High, 0), High: max(left.High-loss.Low, 0)}
		now.lost[other] = api.Span{Low: lost.Low + loss.Low, High: lost.High + loss.High}
	}
	// No other force has become greater than it was after the step before.
	now.most = max(now.most, force.High)
	return now
}

// stepped returns what is known after a step, or the error of the step.
func (f flange) stepped(now state, s api.FlangeStep) (state, api.Errno) {
	if !exact.AllFrom(0, f.Bolts-1, s.Bolt) {
		return state{}, api.ErrNone
	}
	alone, e := f.alone(s.Torque)
	if e != api.OK {
		return state{}, e
	}
	return f.tightened(now, s.Bolt, alone), api.OK
}

// after returns a flange and what is known of it after a plan, or the error of its rules or of the plan.
func after(r api.FlangeRules, plan []api.FlangeStep) (f flange, now state, e api.Errno) {
	f, e = flangeOf(r)
	if e != api.OK {
		return flange{}, state{}, e
	}
	if len(plan) > api.MaxFlangeSteps {
		return flange{}, state{}, api.ErrLong
	}
	for _, s := range plan {
		now, e = f.stepped(now, s)
		if e != api.OK {
			return flange{}, state{}, e
		}
	}
	return f, now, api.OK
}
