package thread_test

import (
	"testing"

	"acme/api"
	"acme/thread"
)

// badForms returns forms each of which passes one limit by one, or has a width below 0, or numbers that careless arithmetic lets through.
func badForms() []api.ThreadForm {
	l := []api.ThreadForm{
		{},
		metric(pitch(99), heights(1, 1)),
		metric(pitch(200001)),
		metric(left(-1)), metric(left(3001), heights(1, 1)),
		metric(right(-1)), metric(right(3001), heights(1, 1)),
		metric(above(-1)), metric(leans(0, 0), above(200001)),
		metric(below(-1)), metric(leans(0, 0), below(200001)),
		metric(heights(0, 0)),
		metric(heights(-1, 2)), metric(heights(2, -1)),
		metric(starts(0)), metric(starts(9)), metric(starts(-1)),
		metric(taper(-1)), metric(taper(101)),
		// A width below 0 at the crest, or at the root of the groove.
		metric(above(5000)), metric(above(4333)), metric(below(4333)),
		metric(leans(3000, 3000), heights(833, 834)), metric(leans(3000, 3000), heights(834, 833)),
		metric(leans(0, 1001), heights(0, 4996)), metric(leans(1001, 0), heights(4996, 0)),
		// By less than a unit: neither half the pitch nor what a flank runs along is rounded.
		metric(pitch(100), leans(1001, 0), heights(0, 50)), metric(pitch(100), leans(0, 1001), heights(50, 0)),
		metric(pitch(101), leans(506, 505), heights(0, 50)), metric(pitch(101), leans(506, 505), heights(50, 0)),
	}
	for _, n := range extremes() {
		if n < -1 || n > 1<<39 {
			l = append(l, metric(pitch(n)), metric(left(n)), metric(right(n)), metric(above(n)), metric(below(n)), metric(starts(n)), metric(taper(n)), metric(heights(n, n)), metric(leans(n, n)))
		}
	}
	return l
}

// goodForms returns forms that reach limits.
func goodForms() []api.ThreadForm {
	return append(forms(),
		metric(pitch(100), heights(1, 1)), metric(pitch(200000)),
		metric(left(0)), metric(left(3000), heights(1, 1)),
		metric(right(0)), metric(right(3000), heights(1, 1)),
		metric(leans(0, 0), above(200000)), metric(leans(0, 0), below(200000)),
		metric(heights(0, 1)), metric(heights(1, 0)), metric(above(0)), metric(below(0)),
		metric(starts(1)), metric(starts(8)), metric(leftHand()),
		metric(taper(0)), metric(taper(100)),
		metric(above(4332)), metric(below(4332)),
		// A width of just 0.
		metric(leans(500, 500), heights(5000, 5000)),
		metric(pitch(101), leans(505, 505), heights(50, 50)), metric(pitch(101), leans(0, 1010), heights(50, 50)),
	)
}

// TestCheck is for P1.1: what a form is.
func TestCheck(t *testing.T) {
	for i, f := range goodForms() {
		if e := thread.Check(f); e != api.OK {
			t.Error("good", i, f, e)
		}
	}
	for i, f := range badForms() {
		if e := thread.Check(f); e != api.ErrArg {
			t.Error("bad", i, f, e)
		}
	}
}

// TestCheckFirst is for P1.1, P1 and R2: the error of a form comes before all others, and with it the results are zero.
func TestCheckFirst(t *testing.T) {
	good := metric()
	other := metric(starts(2))
	for i, f := range badForms() {
		for name, got := range map[string]answer{
			"Width":         ratioAnswer(thread.Width(f, 0)),
			"Width far":     ratioAnswer(thread.Width(f, 1<<40)),
			"Sharp":         ratioAnswer(thread.Sharp(f)),
			"Area":          ratioAnswer(thread.Area(f, 0, 0)),
			"Area far":      ratioAnswer(thread.Area(f, 5, -1<<40)),
			"Advance":       ratioAnswer(thread.Advance(f, 1)),
			"Advance far":   ratioAnswer(thread.Advance(f, 1<<40)),
			"PerInch":       ratioAnswer(thread.PerInch(f)),
			"Diameter":      ratioAnswer(thread.Diameter(f, 1, 1)),
			"Diameter far":  ratioAnswer(thread.Diameter(f, 0, -1)),
			"Meets":         ratioAnswer(thread.Meets(f, 1, 2)),
			"Meets far":     ratioAnswer(thread.Meets(f, 2, 1)),
			"Room a":        intAnswer(thread.Room(f, good, span(0, 1))),
			"Room a far":    intAnswer(thread.Room(f, other, span(1, 0))),
			"Room b":        intAnswer(thread.Room(good, f, span(0, 1))),
			"Room b far":    intAnswer(thread.Room(other, f, span(1, 0))),
			"Room both":     intAnswer(thread.Room(f, f, span(0, 1))),
			"Agree":         listAnswer(thread.Agree([]api.ThreadForm{f}, wide())),
			"Agree last":    listAnswer(thread.Agree([]api.ThreadForm{good, f}, wide())),
			"Agree first":   listAnswer(thread.Agree([]api.ThreadForm{f, good}, wide())),
			"Agree unlike":  listAnswer(thread.Agree([]api.ThreadForm{good, f}, api.ThreadSeen{Hand: 7})),
			"Alike":         listAnswer(thread.Alike([]api.ThreadForm{f}, api.ThreadErrors{})),
			"Alike last":    listAnswer(thread.Alike([]api.ThreadForm{good, good, f}, api.ThreadErrors{})),
			"Alike first":   listAnswer(thread.Alike([]api.ThreadForm{f, good, good}, api.ThreadErrors{})),
			"Alike unlike":  listAnswer(thread.Alike([]api.ThreadForm{good, f}, api.ThreadErrors{Depth: -1})),
			"Alike no pair": listAnswer(thread.Alike([]api.ThreadForm{good, f, other}, api.ThreadErrors{Pitch: 1 << 40})),
		} {
			if got != (answer{zero: true, e: api.ErrArg}) {
				t.Error(i, f, name, got)
			}
		}
	}
}

// answer is whether a result is its zero value, and the error.
type answer struct {
	zero bool
	e    api.Errno
}

func ratioAnswer(r api.Ratio, e api.Errno) answer { return answer{zero: r == api.Ratio{}, e: e} }

func intAnswer(n int, e api.Errno) answer { return answer{zero: n == 0, e: e} }

func listAnswer[T any](l []T, e api.Errno) answer { return answer{zero: len(l) == 0, e: e} }
