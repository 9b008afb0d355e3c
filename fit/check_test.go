package fit_test

import (
	"testing"

	"acme/api"
	"acme/fit"
)

// longThreads returns threads with too many turns, with and without further errors.
func longThreads() []api.FitThread {
	return []api.FitThread{
		row(61, 0, 5), row(5000, 0, 0),
		{Turns: make([]api.FitTurn, 61), Left: -1, Right: 3001},
		row(61, api.MaxFitAt, 5),
		func() api.FitThread {
			t := row(61, 0, 5)
			t.Turns[0], t.Turns[1] = t.Turns[1], t.Turns[0]
			return t
		}(),
	}
}

// argThreads returns threads that are not valid, and not too long.
func argThreads() []api.FitThread {
	l := []api.FitThread{
		{}, {Turns: []api.FitTurn{}}, {Left: 577, Right: 577}, {Left: -1},
		// Flanks that are exchanged, in each place.
		lean(1, 0), lean(1, 0, 5, 6), lean(0, 1, 6, 5), lean(0, 1, 5, 6, 8, 7),
		// Turns that run into one another, in each place.
		lean(0, 5, 4, 9), lean(0, 5, 5, 9, 8, 9), lean(5, 6, 0, 1), lean(0, 5, 0, 5), lean(0, 9, 3, 4),
		// Limits that are passed by one.
		lean(-10000001, 0), lean(0, 10000001), lean(10000001, 10000001), lean(-10000001, -10000001), lean(-10000001, 5, 7, 9), lean(0, 1, 5, 10000001), lean(0, 1, 10000001, 10000002),
		turned(-1, 577, 0, 1), turned(577, -1, 0, 1), turned(3001, 577, 0, 1), turned(577, 3001, 0, 1), turned(-1, 3001, 0, 1, 2, 3),
	}
	for _, n := range extremes() {
		if n < -1 || n > 1 {
			l = append(l, lean(n, n), lean(n, 0), lean(0, n), lean(0, 0, n, n), lean(n, n, 0, 0), turned(n, 0, 0, 0), turned(0, n, 0, 0))
		}
	}
	return l
}

// goodThreads returns threads that are as they should be, with each limit reached.
func goodThreads() []api.FitThread {
	return []api.FitThread{
		lean(-2500, 2500, 7500, 12500), lean(0, 0), lean(5, 5, 5, 5, 5, 5), lean(0, 5, 5, 9), lean(-9, -8, -8, -1),
		lean(-10000000, 10000000), lean(-10000000, -10000000), lean(10000000, 10000000), lean(-10000000, -10000000, 10000000, 10000000),
		turned(0, 0, 1, 2), turned(3000, 3000, 1, 2), turned(0, 3000, 1, 2, 3, 4), turned(3000, 0, 1, 2, 3, 4),
		row(60, 0, 5), row(60, 0, 0), row(1, 0, 5), row(60, -10000000, 160000),
	}
}

// TestCheck is for P3.1.
func TestCheck(t *testing.T) {
	for want, l := range map[api.Errno][]api.FitThread{api.OK: goodThreads(), api.ErrLong: longThreads(), api.ErrArg: argThreads()} {
		for i, thread := range l {
			if e := fit.Check(thread); e != want {
				t.Error(want, i, thread, e)
			}
		}
	}
}

// answer is whether all results are zero values, and the error.
type answer struct {
	zero bool
	e    api.Errno
}

func valueAnswer[T comparable](value T, e api.Errno) answer {
	var zero T
	return answer{zero: value == zero, e: e}
}

func listAnswer[T any](l []T, e api.Errno) answer { return answer{zero: len(l) == 0, e: e} }

func showAnswer(screw, nut api.FitThread, goes bool, e api.Errno) answer {
	zero := func(t api.FitThread) bool { return len(t.Turns) == 0 && t.Left == 0 && t.Right == 0 }
	return answer{zero: zero(screw) && zero(nut) && !goes, e: e}
}

// threadAnswers returns what the functions answer that have a thread as an argument, in each place for one, with further errors that come later.
func threadAnswers(thread api.FitThread) map[string]answer {
	good, long := lean(0, 1), longThreads()[0]
	l := []api.FitThread{good, thread, long, {}}
	return map[string]answer{
		"Shift screw":       valueAnswer(fit.Shift(thread, good, 0, 0, 1, usual())),
		"Shift nut":         valueAnswer(fit.Shift(good, thread, 0, 0, 1, usual())),
		"Shift before nut":  valueAnswer(fit.Shift(thread, long, 0, 0, 1, usual())),
		"Shift before arg":  valueAnswer(fit.Shift(thread, api.FitThread{}, 0, 0, 1, usual())),
		"Shift before rest": valueAnswer(fit.Shift(good, thread, -1, 9, 0, span(1, 0))),
		"Deep screw":        valueAnswer(fit.Deep(thread, good, usual())),
		"Deep nut":          valueAnswer(fit.Deep(good, thread, usual())),
		"Deep before nut":   valueAnswer(fit.Deep(thread, long, span(1, 0))),
		"Deep before arg":   valueAnswer(fit.Deep(thread, api.FitThread{}, span(1, 0))),
		"Screw":             valueAnswer(fit.Screw(metric(), thread, usual())),
		"Screw before rest": valueAnswer(fit.Screw(straight(), thread, span(1, 0))),
		"Nut":               valueAnswer(fit.Nut(metric(), thread, usual())),
		"Nut before rest":   valueAnswer(fit.Nut(straight(), thread, span(1, 0))),
		"Goers screw":       listAnswer(fit.Goers(l, nil, usual())),
		"Goers nut":         listAnswer(fit.Goers([]api.FitThread{good}, l, usual())),
		"Goers before rest": listAnswer(fit.Goers(l, []api.FitThread{long, {}}, span(1, 0))),
		"Goers depth":       listAnswer(fit.Goers(nil, l, span(1, 0))),
	}
}

// TestThreadFirst is for P3.1, P1 and R2: the errors of threads come first, in the order of the arguments, and with them the results are zero.
func TestThreadFirst(t *testing.T) {
	for want, l := range map[api.Errno][]api.FitThread{api.ErrLong: longThreads(), api.ErrArg: argThreads()} {
		for i, thread := range l {
			for name, got := range threadAnswers(thread) {
				if got != (answer{zero: true, e: want}) {
					t.Error(want, i, thread, name, got)
				}
			}
		}
	}
}

// TestFormFirst is for P3.1, P3.5 and P3.6: a form that is not valid comes before all else.
func TestFormFirst(t *testing.T) {
	for i, f := range badForms() {
		for _, thread := range []api.FitThread{lean(0, 1), longThreads()[0], {}} {
			for name, got := range map[string]answer{
				"Screw":       valueAnswer(fit.Screw(f, thread, usual())),
				"Screw depth": valueAnswer(fit.Screw(f, thread, span(1, 0))),
				"Nut":         valueAnswer(fit.Nut(f, thread, usual())),
				"Nut depth":   valueAnswer(fit.Nut(f, thread, span(1, 0))),
				"Show":        showAnswer(fit.Show(f, 0, 0, 1, usual())),
				"Show rest":   showAnswer(fit.Show(f, 10001, 0, 0, span(1, 0))),
				"Cost":        valueAnswer(fit.Cost(f, rules(), 1, usual())),
				"Cost rest":   valueAnswer(fit.Cost(f, api.FitRules{Thick: span(1, 0)}, 0, span(1, 0))),
			} {
				if got != (answer{zero: true, e: api.ErrArg}) {
					t.Error(i, f, name, got)
				}
			}
		}
	}
}

// TestDepth is for P3.1, P3.5 and P3.6: a depth that is not valid comes after threads, turns, sizes and rules, and before all else.
func TestDepth(t *testing.T) {
	good, far := lean(0, 1), lean(5, 500)
	for i, depth := range badDepths() {
		for name, got := range map[string]answer{
			"Shift":          valueAnswer(fit.Shift(good, good, 0, 0, 1, depth)),
			"Shift none":     valueAnswer(fit.Shift(good, good, 1, -1, 0, depth)),
			"Shift state":    valueAnswer(fit.Shift(far, good, 0, 0, 1, depth)),
			"Deep":           valueAnswer(fit.Deep(good, good, depth)),
			"Screw":          valueAnswer(fit.Screw(metric(), good, depth)),
			"Screw straight": valueAnswer(fit.Screw(straight(), good, depth)),
			"Nut":            valueAnswer(fit.Nut(metric(), good, depth)),
			"Nut straight":   valueAnswer(fit.Nut(straight(), good, depth)),
			"Show":           showAnswer(fit.Show(metric(), 0, 0, 1, depth)),
			"Show state":     showAnswer(fit.Show(metric(), -10000, 0, 1, depth)),
			"Cost":           valueAnswer(fit.Cost(metric(), rules(), 1, depth)),
			"Cost straight":  valueAnswer(fit.Cost(straight(), rules(), 1, depth)),
			"Goers":          listAnswer(fit.Goers([]api.FitThread{good}, []api.FitThread{good}, depth)),
			"Goers of none":  listAnswer(fit.Goers(nil, nil, depth)),
		} {
			if got != (answer{zero: true, e: api.ErrRange}) {
				t.Error(i, depth, name, got)
			}
		}
	}
	for i, depth := range depths() {
		for name, got := range map[string]answer{
			"Shift": valueAnswer(fit.Shift(good, lean(0, 2), 0, 0, 1, depth)),
			"Deep":  valueAnswer(fit.Deep(good, good, depth)),
			"Screw": valueAnswer(fit.Screw(metric(), good, depth)),
			"Nut":   valueAnswer(fit.Nut(metric(), good, depth)),
			"Show":  showAnswer(fit.Show(metric(), 0, 0, 1, depth)),
			"Cost":  valueAnswer(fit.Cost(metric(), rules(), 1, depth)),
			"Goers": listAnswer(fit.Goers([]api.FitThread{good}, []api.FitThread{good}, depth)),
		} {
			if got != (answer{e: api.OK}) {
				t.Error(i, depth, name, got)
			}
		}
	}
}
