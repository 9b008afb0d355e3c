package thread

import (
	"acme/api"
	"acme/exact"
)

// Room returns by how much the radius of a screw must be smaller to go into a nut.
func Room(a, b api.ThreadForm, depth api.Span) (int, api.Errno) {
	screw, e := shapeOf(a)
	if e != api.OK {
		return 0, e
	}
	nut, e := shapeOf(b)
	if e != api.OK {
		return 0, e
	}
	if screw.Pitch != nut.Pitch || !screw.turnsLike(nut) {
		return 0, api.ErrState
	}
	over := exact.Heights{Span: depth}
	if !over.Valid() {
		return 0, api.ErrRange
	}
	// A shift along the axis gives one flank what it takes from the other, so only the sum counts.
	need := over.Overlap(screw.Left, nut.Left) + over.Overlap(screw.Right, nut.Right)
	if need <= 0 {
		return 0, api.OK
	}
	if screw.leans == 0 {
		return 0, api.ErrNone
	}
	return exact.RoundUp(need, screw.leans), api.OK
}

// turnsLike reports whether two shapes have the same starts, hand and taper.
func (s shape) turnsLike(o shape) bool {
	return s.Starts == o.Starts && s.hand == o.hand && s.Taper == o.Taper
}
