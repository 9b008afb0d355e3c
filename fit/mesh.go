package fit

import (
	"iter"
	"math"

	"acme/api"
	"acme/exact"
)

// mesh is a screw and a nut whose flanks can touch at the heights of a depth.
type mesh struct {
	exact.Heights
	screw, nut piece
}

// meshOf returns the mesh of a screw and a nut, or the error of one of them or of the depth.
func meshOf(screw, nut api.FitThread, depth api.Span) (mesh, api.Errno) {
	if e := checkAll(depth, screw, nut); e != api.OK {
		return mesh{}, e
	}
	return mesh{exact.Heights{Span: depth}, pieceOf(screw), pieceOf(nut)}, api.OK
}

// step is so many teeth, at least one, in as many grooves, from a tooth and a groove on.
type step struct{ tooth, groove, many int }

// steps yields which teeth are in which grooves, as a screw is screwed into a nut.
func (m mesh) steps() iter.Seq[step] {
	return func(yield func(step) bool) {
		teeth := len(m.screw.turns)
		for last := range len(m.nut.turns) {
			many := min(last+1, teeth)
			if !yield(step{tooth: teeth - many, groove: last + 1 - many, many: many}) {
				return
			}
		}
	}
}

// flanks yields the flanks of each tooth of a step, and those of its groove.
func (m mesh) flanks(s step) iter.Seq2[flanks, flanks] {
	return func(yield func(flanks, flanks) bool) {
		for turn := range s.many {
			if !yield(m.screw.turns[s.tooth+turn], m.nut.turns[s.groove+turn]) {
				return
			}
		}
	}
}

// shifts returns from which shift to which one all teeth of a step lie in their grooves; none does if the first is greater than the last.
func (m mesh) shifts(s step) (first, last int) {
	first, last = math.MinInt, math.MaxInt
	for tooth, groove := range m.flanks(s) {
		first = max(first, groove.left-tooth.left)
		last = min(last, groove.right-tooth.right)
	}
	return first + m.Overlap(m.screw.left, m.nut.left), last - m.Overlap(m.screw.right, m.nut.right)
}

// room returns by how much the flanks of the nut could be nearer to one another with the teeth of a step still in their grooves; below 0, they do not lie in them.
func (m mesh) room(s step) int {
	first, last := m.shifts(s)
	return last - first
}

// wholeRoom returns the room of all teeth, each in the groove with its number.
func (m mesh) wholeRoom() int { return m.room(step{many: len(m.screw.turns)}) }

// Shift returns the shifts with which teeth lie in grooves.
func Shift(screw, nut api.FitThread, tooth, groove, many int, depth api.Span) (api.Span, api.Errno) {
	m, e := meshOf(screw, nut, depth)
	if e != api.OK {
		return api.Span{}, e
	}
	if many < 1 || !exact.AllFrom(0, len(screw.Turns)-many, tooth) || !exact.AllFrom(0, len(nut.Turns)-many, groove) {
		return api.Span{}, api.ErrNone
	}
	first, last := m.shifts(step{tooth: tooth, groove: groove, many: many})
	if first > last {
		return api.Span{}, api.ErrState
	}
	return api.Span{Low: first, High: last}, api.OK
}

// Deep returns how far a screw can be screwed into a nut.
func Deep(screw, nut api.FitThread, depth api.Span) (int, api.Errno) {
	m, e := meshOf(screw, nut, depth)
	if e != api.OK {
		return 0, e
	}
	deep := 0
	for s := range m.steps() {
		if m.room(s) < 0 {
			break
		}
		deep++
	}
	return deep, api.OK
}
