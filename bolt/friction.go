package bolt

import (
	"acme/api"
	"acme/exact"
)

// Holds reports whether a bolt holds by itself.
func Holds(b api.BoltKind) (surely, possibly bool, e api.Errno) {
	k, e := kindOf(b)
	if e != api.OK {
		return false, false, e
	}
	grips := k.grips()
	return grips.Low > 0, grips.High > 0, api.OK
}

// Loosen returns which torque loosens a bolt.
func Loosen(b api.BoltKind, force api.Span) (api.Span, api.Errno) {
	k, e := kindOf(b)
	if e != api.OK {
		return api.Span{}, e
	}
	if !validForce(force) {
		return api.Span{}, api.ErrRange
	}
	grips := k.grips()
	return api.Span{Low: leastTorque(force.Low, max(grips.Low, 0)), High: leastTorque(force.High, max(grips.High, 0))}, api.OK
}

// Learn returns what a torque and a force tell about friction.
func Learn(b api.BoltKind, torque, force api.Span) (onThread, onHead api.Span, e api.Errno) {
	k, e := kindOf(b)
	if e != api.OK {
		return api.Span{}, api.Span{}, e
	}
	if !validTorque(torque) || !validForce(force) {
		return api.Span{}, api.Span{}, api.ErrRange
	}
	told := k.told(torque, force)
	onThread, onHead = noFriction(), noFriction()
	for t := k.OnThread.Low; t <= k.OnThread.High; t++ {
		heads := k.heads(told, t)
		if heads.Low <= heads.High {
			onThread, onHead = joined(onThread, api.Span{Low: t, High: t}), joined(onHead, heads)
		}
	}
	if onThread.Low > onThread.High {
		return api.Span{}, api.Span{}, api.ErrState
	}
	return onThread, onHead, api.OK
}

// told returns the arms at which some torque of a span has some force of another one; there are none if its Low is above its High. As no arm is below 1000, the force grows by at most 1 with each unit of torque, and skips none: the ends of both spans decide.
func (k kind) told(torque, force api.Span) api.Span {
	told := k.arms()
	told.Low = max(told.Low, 1000*torque.Low/(force.High+1)+1)
	// At each arm the force is at least 0.
	if force.Low > 0 {
		told.High = min(told.High, 1000*torque.High/force.Low)
	}
	return told
}

// heads returns the frictions on the head with which the arm is a told one, for a friction on the thread; there are none if its Low is above its High.
func (k kind) heads(told api.Span, onThread int) api.Span {
	rest := moved(told, -k.arm(onThread, 0))
	if k.Head > 0 {
		return exact.Common(k.OnHead, api.Span{Low: exact.RoundUp(rest.Low, k.Head), High: exact.RoundDown(rest.High, k.Head)})
	}
	if exact.AllFrom(rest.Low, rest.High, 0) {
		return k.OnHead
	}
	return noFriction()
}

// noFriction returns a span without integers, which changes no friction that is joined with it.
func noFriction() api.Span { return api.Span{Low: api.MaxBoltFriction, High: 0} }

// joined returns the least span in which two others lie.
func joined(a, b api.Span) api.Span {
	return api.Span{Low: min(a.Low, b.Low), High: max(a.High, b.High)}
}
