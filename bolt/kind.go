package bolt

import (
	"acme/api"
	"acme/exact"
)

// kind is a kind of bolt that is as it should be. Its arms are in thousandths of a unit of length.
type kind struct{ api.BoltKind }

// kindOf returns a kind of bolt, or its error, or that of the ways in which it is tightened.
func kindOf(b api.BoltKind, ways ...api.BoltWay) (kind, api.Errno) {
	if e := Check(b); e != api.OK {
		return kind{}, e
	}
	if !validWays(ways...) {
		return kind{}, api.ErrArg
	}
	return kind{b}, api.OK
}

// pull returns the arm of the thread's slope, at which a force turns the bolt back.
func (k kind) pull() int { return 1000 * k.Lead }

// drag returns the arm of friction, which resists either way.
func (k kind) drag(onThread, onHead int) int { return k.Thread*onThread + k.Head*onHead }

// arm returns the arm at which a torque tightens the bolt.
func (k kind) arm(onThread, onHead int) int { return k.pull() + k.drag(onThread, onHead) }

// drags returns the least and the greatest arm of friction.
func (k kind) drags() api.Span {
	return api.Span{Low: k.drag(k.OnThread.Low, k.OnHead.Low), High: k.drag(k.OnThread.High, k.OnHead.High)}
}

// arms returns the least and the greatest arm at which a torque tightens the bolt.
func (k kind) arms() api.Span { return moved(k.drags(), k.pull()) }

// grips returns by how much the arm of friction is greater than that of the slope, at least and at most; below 0, the bolt does not hold by itself.
func (k kind) grips() api.Span { return moved(k.drags(), -k.pull()) }

// moved returns a span whose integers are greater by a number.
func moved(s api.Span, by int) api.Span { return api.Span{Low: s.Low + by, High: s.High + by} }

// times returns the least and the greatest product of integers of two spans, none of which is below 0.
func times(a, b api.Span) api.Span { return api.Span{Low: a.Low * b.Low, High: a.High * b.High} }

// force returns the least and the greatest force of a bolt that is tightened in a way.
func (k kind) force(w api.BoltWay) api.Span {
	var force api.Span
	switch w.Kind {
	case api.BoltStretch:
		force = times(k.Spring, w.Stretch)
	case api.BoltAngle:
		turned := times(k.Stiff, w.Angle)
		force = api.Span{Low: turned.Low / 1000, High: turned.High / 1000}
		fallthrough
	case api.BoltTorque:
		arms := k.arms()
		force.Low += 1000 * w.Torque.Low / arms.High
		force.High += 1000 * w.Torque.High / arms.Low
	}
	return force
}

// leastTorque returns the least torque that is needed for a force at an arm.
func leastTorque(force, arm int) int { return exact.RoundUp(force*arm, 1000) }
