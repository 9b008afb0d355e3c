package swap

import (
	"acme/api"
	"acme/exact"
)

// piece is a screw or a nut: the perfect thread of a form and a size.
type piece struct {
	api.ThreadForm
	size int
}

// agrees reports whether the forms of two pieces agree.
func (p piece) agrees(o piece) bool {
	return p.Starts == o.Starts && p.LeftHand == o.LeftHand && p.Taper == o.Taper
}

// grown returns by how much both flanks of a turn are farther apart than those of the size 0, in thousandths of a unit.
func (p piece) grown() int { return p.size * (p.Left + p.Right) }

// play returns how far a tooth of a screw can be shifted in a groove of a nut, in thousandths of a unit; below 0, it does not go in.
func (p piece) play(nut piece, over exact.Heights) int {
	wider := 500*(nut.Pitch-p.Pitch) + nut.grown() - p.grown()
	return wider - over.Overlap(p.Left, nut.Left) - over.Overlap(p.Right, nut.Right)
}

// turnsIn returns for how many turns a screw goes into a nut.
func (p piece) turnsIn(nut piece, over exact.Heights) int {
	play := p.play(nut, over)
	if play < 0 || !p.agrees(nut) {
		return 0
	}
	// All teeth have the same play, each of them farther on by as much as the pitches differ: the first and the last one decide.
	step := 1000 * max(nut.Pitch-p.Pitch, p.Pitch-nut.Pitch)
	if step == 0 {
		return api.MaxSwapTurns
	}
	return min(1+play/step, api.MaxSwapTurns)
}
