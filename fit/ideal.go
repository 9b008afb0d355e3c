package fit

import (
	"acme/api"
	"acme/exact"
	"acme/thread"
)

// ideal is a form of which perfect threads are made.
type ideal struct {
	api.ThreadForm
	leans int // both leans together
}

// idealOf returns the ideal of a form, or the error of a form.
func idealOf(f api.ThreadForm) (ideal, api.Errno) {
	if e := thread.Check(f); e != api.OK {
		return ideal{}, e
	}
	return ideal{ThreadForm: f, leans: f.Left + f.Right}, api.OK
}

// turn returns a turn of the perfect thread of a size.
func (i ideal) turn(number, size int) flanks {
	middle := 1000 * i.Pitch * number
	return flanks{left: middle - 250*i.Pitch - size*i.Left, right: middle + 250*i.Pitch + size*i.Right}
}

// perfect returns the perfect thread of the size 0.
func (i ideal) perfect(turns int) piece {
	p := piece{left: i.Left, right: i.Right}
	for number := range turns {
		p.turns = append(p.turns, i.turn(number, 0))
	}
	return p
}

// measured returns the ideal that a thread is measured by, or the first error of Screw and Nut.
func measured(f api.ThreadForm, t api.FitThread, depth api.Span) (ideal, api.Errno) {
	form, e := idealOf(f)
	if e != api.OK {
		return ideal{}, e
	}
	if e := checkAll(depth, t); e != api.OK {
		return ideal{}, e
	}
	if form.leans == 0 {
		return ideal{}, api.ErrNone
	}
	return form, api.OK
}

// Screw returns the least size of a perfect nut into which a screw goes.
func Screw(f api.ThreadForm, t api.FitThread, depth api.Span) (int, api.Errno) {
	form, e := measured(f, t, depth)
	if e != api.OK {
		return 0, e
	}
	// Each unit of size moves both flanks of all grooves apart by their leans.
	room := mesh{exact.Heights{Span: depth}, pieceOf(t), form.perfect(len(t.Turns))}.wholeRoom()
	return exact.RoundUp(-room, form.leans), api.OK
}

// Nut returns the greatest size of a perfect screw that goes into a nut.
func Nut(f api.ThreadForm, t api.FitThread, depth api.Span) (int, api.Errno) {
	form, e := measured(f, t, depth)
	if e != api.OK {
		return 0, e
	}
	room := mesh{exact.Heights{Span: depth}, form.perfect(len(t.Turns)), pieceOf(t)}.wholeRoom()
	return exact.RoundDown(room, form.leans), api.OK
}
