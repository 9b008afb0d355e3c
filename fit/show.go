package fit

import (
	"acme/api"
	"acme/exact"
)

// Show returns a screw that a ring passes and a nut that a plug passes, and whether they go together.
func Show(f api.ThreadForm, ring, plug, turns int, depth api.Span) (screw, nut api.FitThread, goes bool, e api.Errno) {
	form, e := idealOf(f)
	if e != api.OK {
		return api.FitThread{}, api.FitThread{}, false, e
	}
	if !exact.AllFrom(1, api.MaxFitTurns, turns) || !exact.AllFrom(-api.MaxFitSize, api.MaxFitSize, ring, plug) {
		return api.FitThread{}, api.FitThread{}, false, api.ErrRange
	}
	if e := checkAll(depth); e != api.OK {
		return api.FitThread{}, api.FitThread{}, false, e
	}
	screw, nut = form.rounded(turns, ring, inside), form.rounded(turns, plug, outside)
	if checkAll(depth, screw, nut) != api.OK {
		return api.FitThread{}, api.FitThread{}, false, api.ErrState
	}
	return screw, nut, fits(screw, nut, depth), api.OK
}

// rounded returns the perfect thread of a size, its flanks rounded to units.
func (i ideal) rounded(turns, size int, round func(flanks) api.FitTurn) api.FitThread {
	t := api.FitThread{Left: i.Left, Right: i.Right}
	for number := range turns {
		t.Turns = append(t.Turns, round(i.turn(number, size)))
	}
	return t
}

func inside(f flanks) api.FitTurn {
	return api.FitTurn{Left: exact.RoundUp(f.left, 1000), Right: exact.RoundDown(f.right, 1000)}
}

func outside(f flanks) api.FitTurn {
	return api.FitTurn{Left: exact.RoundDown(f.left, 1000), Right: exact.RoundUp(f.right, 1000)}
}
