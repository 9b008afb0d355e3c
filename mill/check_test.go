package mill_test

import (
	"slices"
	"testing"

	"acme/api"
	"acme/mill"
)

// goodWorks returns runs that are as they should be, with each limit reached.
func goodWorks() [][]api.MillRun {
	l := [][]api.MillRun{
		nil, {}, works(), shifts(60, 1), shifts(60, 10), shifts(60, 1600), {run(0, 0, 0, 0, 0)}, {run(1000, 100000, 100000, 1000, 1000)}, {run(0, 0, 100000, 0, 1000)}, {run(7, 5, 5, 1000, 0)},
		// One hour behind the other, in any order, and the same hours of other machines.
		{run(1, 5, 9, 1, 1), run(1, 10, 12, 1, 1), run(1, 0, 4, 1, 1)}, {run(1, 5, 9, 1, 1), run(2, 5, 9, 1, 1), run(0, 0, 100000, 1, 1)}, {run(1, 5, 5, 0, 0), run(1, 4, 4, 0, 0), run(1, 6, 6, 0, 0)},
	}
	r := dice()
	for range 20 {
		l = append(l, anyWorks(r))
	}
	return l
}

// wrongRuns returns runs that are not as they should be.
func wrongRuns() []api.MillRun {
	l := []api.MillRun{run(1, 1, 0, 1, 1), run(1, 100000, 99999, 1, 1)}
	for _, n := range outside(0, 1000) {
		l = append(l, run(n, 0, 9, 1, 1), run(1, 0, 9, n, 1), run(1, 0, 9, 1, n))
	}
	for _, n := range outside(0, 100000) {
		l = append(l, run(1, n, n, 1, 1), run(1, n, 5, 1, 1), run(1, 5, n, 1, 1), run(1, n, 100000, 1, 1), run(1, 0, n, 1, 1))
	}
	return l
}

// badWorks returns runs with an error, by what it is.
func badWorks() map[api.Errno][][]api.MillRun {
	long := [][]api.MillRun{shifts(61, 1), shifts(61, 5000), make([]api.MillRun, 61), make([]api.MillRun, 5000), slices.Repeat([]api.MillRun{run(-1, -1, -1, -1, -1)}, 61)}
	var wrong, twice [][]api.MillRun
	for _, r := range wrongRuns() {
		wrong = append(wrong, []api.MillRun{r}, append(works(), r), append(works(), r, run(2, 0, 0, 9, 9)), append(shifts(59, 3), r), []api.MillRun{r, run(1, 0, 9, 1, 1), run(1, 0, 9, 1, 1)})
		// A wrong run is not looked at if one before it is there twice.
		twice = append(twice, append(works(), run(2, 0, 0, 9, 9), r))
	}
	for _, second := range []api.MillRun{run(1, 5, 9, 1, 1), run(1, 5, 5, 2, 2), run(1, 9, 9, 2, 2), run(1, 7, 7, 2, 2), run(1, 0, 5, 2, 2), run(1, 9, 12, 2, 2), run(1, 0, 100000, 2, 2), run(1, 4, 6, 1, 1), run(1, 8, 10, 1, 1)} {
		first := run(1, 5, 9, 1, 1)
		twice = append(twice, []api.MillRun{first, second}, []api.MillRun{second, first}, []api.MillRun{run(2, 0, 99, 1, 1), first, run(0, 0, 99, 1, 1), second})
		twice = append(twice, append(append([]api.MillRun{first}, shifts(61, 100)[1:59]...), second))
	}
	return map[api.Errno][][]api.MillRun{api.ErrLong: long, api.ErrArg: wrong, api.ErrTwice: twice}
}

// TestCheck is for P12.5.
func TestCheck(t *testing.T) {
	for _, l := range goodWorks() {
		if e := mill.Check(l); e != api.OK {
			t.Error(l, e)
		}
	}
	for want, all := range badWorks() {
		for _, l := range all {
			if e := mill.Check(l); e != want {
				t.Error(l, e, want)
			}
		}
	}
}

// asked is all that is asked of runs.
type asked struct {
	lot             api.MillLot
	bad, good, lots []api.MillLot
	cause           api.MillCause
}

// usual returns what can be asked of the example's runs and of others.
func usual() asked {
	return asked{lot: lot(1, 9, 10), bad: []api.MillLot{lot(1, 9, 10)}, good: []api.MillLot{lot(1, 15, 19)}, lots: []api.MillLot{lot(1, 0, 3), lot(2, 0, 3)}, cause: coil(5)}
}

// wrongAsked returns what cannot be asked.
func wrongAsked() []asked {
	return []asked{
		{lot: lot(-1, 0, 0), bad: []api.MillLot{lot(-1, 0, 0)}, good: []api.MillLot{lot(0, -1, 0)}, lots: []api.MillLot{lot(0, 5, 4)}, cause: coil(-1)},
		{lot: lot(1001, 0, 0), bad: make([]api.MillLot, 41), good: make([]api.MillLot, 41), lots: make([]api.MillLot, 41), cause: api.MillCause{Kind: 4}},
		{lot: lot(1, 0, 100001), lots: []api.MillLot{lot(1, 1, 0)}},
	}
}

// answer is whether all results are zero values, and the error.
type answer struct {
	zero bool
	e    api.Errno
}

func failed(e api.Errno) answer { return answer{zero: true, e: e} }

func listAnswer[T any](l []T, e api.Errno) answer { return answer{zero: l == nil, e: e} }

func spanAnswer(s api.Span, e api.Errno) answer { return answer{zero: s == api.Span{}, e: e} }

func nextAnswer(number, left int, e api.Errno) answer {
	return answer{zero: number == 0 && left == 0, e: e}
}

// answers returns what all functions with runs answer.
func answers(l []api.MillRun, a asked) map[string]answer {
	return map[string]answer{
		"Check":    failed(mill.Check(l)),
		"Causes":   listAnswer(mill.Causes(l, a.lot)),
		"Culprits": listAnswer(mill.Culprits(l, a.bad, a.good)),
		"Recall":   listAnswer(mill.Recall(l, a.lots, a.cause)),
		"Next":     nextAnswer(mill.Next(l, a.bad, a.good, a.lots)),
	}
}

// TestRunsFirst is for P12.5, P1 and R2: the errors of runs come before all others, and with them the results are zero.
func TestRunsFirst(t *testing.T) {
	for want, all := range badWorks() {
		for _, l := range all {
			for _, a := range append(wrongAsked(), usual(), asked{}) {
				for name, got := range answers(l, a) {
					if got != failed(want) {
						t.Error(name, l, a, got, want)
					}
				}
			}
		}
	}
	for _, l := range goodWorks() {
		for name, got := range answers(l, usual()) {
			if got.e != api.OK && !(name == "Next" && got == failed(api.ErrState)) {
				t.Error(name, l, got)
			}
		}
		for i, a := range wrongAsked() {
			for name, got := range answers(l, a) {
				if name != "Check" && (!got.zero || got.e == api.OK) {
					t.Error(name, l, i, got)
				}
			}
		}
	}
}
