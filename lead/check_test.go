package lead_test

import (
	"math"
	"slices"
	"testing"

	"acme/api"
	"acme/lead"
)

// goodJobs returns screws and notches that are as they should be, with each limit reached.
func goodJobs() []job {
	return []job{
		example(), example(long(2, 1)), example(long(200, 1)), example(long(2, 24)), example(long(200, 24)),
		example(turns(span(-10000, 10000), just(-10000), just(10000))), example(drunk(0)), example(drunk(0, -10000, 10000)),
		example(lash(just(0))), example(lash(span(0, 10000))), example(lash(just(10000))),
		example(notched(0, -20000)), example(notched(8, 20000)), example(notched(0, 1, 1, 1, 7, 0, 8, -1)), example(manyNotches(9)),
		example(long(200, 1), manyNotches(200)), example(long(200, 24), manyNotches(200)),
	}
}

// longScrews returns screws with too many turns or angles, with and without further errors.
func longScrews() []job {
	return []job{
		example(long(201, 4)), example(long(3, 25)), example(long(201, 25)), example(long(5000, 1)), example(long(2, 5000)), example(long(0, 25)), example(long(201, 0)),
		example(turns(make([]api.Span, 201)...), lash(just(-1))), example(turns(make([]api.Span, 201)...), drunk(1)), example(drunk(slices.Repeat([]int{99999}, 25)...)),
		example(turns(slices.Repeat([]api.Span{span(1, 0)}, 201)...)), example(turns(just(0)), drunk(make([]int, 25)...)),
	}
}

// badScrews returns screws that are not valid, and have not too many turns or angles.
func badScrews() []job {
	l := []job{{}, example(turns()), example(turns(just(0))), example(drunk()), example(drunk(1)), example(drunk(-1, 0)), example(long(1, 24)), example(long(200, 0))}
	for _, s := range badSpans(-10000, 10000) {
		l = append(l, example(turns(s, just(0))), example(turns(just(0), s)), example(turns(just(0), s, just(0))), example(turns(append(make([]api.Span, 199), s)...)))
	}
	for _, n := range outside(-10000, 10000) {
		l = append(l, example(drunk(n)), example(drunk(0, n)), example(drunk(0, n, 0)), example(drunk(append(make([]int, 23), n)...)))
	}
	for _, s := range badSpans(0, 10000) {
		l = append(l, example(lash(s)))
	}
	return l
}

// longNotches returns jobs with too many notches, with and without further errors of theirs; the screws are valid.
func longNotches() []job {
	return []job{
		example(manyNotches(201)), example(long(200, 24), manyNotches(201)), example(manyNotches(5000)),
		example(func(j *job) { j.notches = make([]api.LeadNotch, 201) }), example(long(200, 24), manyNotches(201), func(j *job) { j.notches[0].Add = 99999 }),
	}
}

// badNotches returns jobs whose notches are not valid, and not too many; the screws are valid.
func badNotches() []job {
	l := []job{
		example(notched(3, 1, 3, 1)), example(notched(3, 1, 2, 1)), example(notched(0, 1, 0, 2)), example(notched(0, 0, 4, 0, 1, 0)), example(notched(5, 0, 6, 0, 6, 0, 7, 0)),
		example(manyNotches(10)), example(long(200, 1), manyNotches(200), func(j *job) { j.notches[199].From = 200 }),
	}
	for _, n := range outside(0, 8) {
		l = append(l, example(notched(n, 0)), example(notched(4, 0, n, 0)), example(notched(n, 0, 4, 0)))
	}
	for _, n := range outside(-20000, 20000) {
		l = append(l, example(notched(0, n)), example(notched(8, n)), example(notched(1, 1, 2, n, 3, 1)))
	}
	return l
}

// TestCheck is for P6.1.
func TestCheck(t *testing.T) {
	for want, l := range map[api.Errno][]job{api.OK: slices.Concat(goodJobs(), longNotches(), badNotches()), api.ErrLong: longScrews(), api.ErrArg: badScrews()} {
		for i, j := range l {
			if e := lead.Check(j.screw); e != want {
				t.Error(want, i, j, e)
			}
		}
	}
}

// answer is whether all results are zero values, and the error.
type answer struct {
	zero bool
	e    api.Errno
}

func failed(e api.Errno) answer { return answer{zero: true, e: e} }

func valueAnswer[T comparable](value T, e api.Errno) answer {
	var zero T
	return answer{zero: value == zero, e: e}
}

func listAnswer[T any](l []T, e api.Errno) answer { return answer{zero: l == nil, e: e} }

// notchAnswers returns what all functions with notches answer.
func notchAnswers(j job, at int, way []int, from, to int) map[string]answer {
	return map[string]answer{
		"Error":  valueAnswer(lead.Error(j.screw, j.notches, at)),
		"Travel": listAnswer(lead.Travel(j.screw, j.notches, way)),
		"Worst":  valueAnswer(lead.Worst(j.screw, j.notches, from, to)),
	}
}

// screwAnswers returns what all other functions with a screw answer.
func screwAnswers(j job, limit, many int, reads []api.LeadRead) map[string]answer {
	return map[string]answer{
		"Cut":   listAnswer(lead.Cut(j.screw, limit)),
		"Least": valueAnswer(lead.Least(j.screw, many)),
		"Lash":  valueAnswer(lead.Lash(j.screw, reads)),
	}
}

func checkAnswers(t *testing.T, j job, want answer, got map[string]answer) {
	t.Helper()
	for name, a := range got {
		if a != want {
			t.Error(name, j, a, want)
		}
	}
}

// TestScrewFirst is for P6.1, P1 and R2: the errors of a screw come before all others, and with them the results are zero.
func TestScrewFirst(t *testing.T) {
	longWay, wrongReads := make([]int, 301), []api.LeadRead{{Up: span(1, 0)}}
	for want, l := range map[api.Errno][]job{api.ErrLong: longScrews(), api.ErrArg: badScrews()} {
		for _, j := range l {
			for _, c := range []change{notched(), notched(3, 99999), manyNotches(201)} {
				c(&j)
				checkAnswers(t, j, failed(want), notchAnswers(j, 0, nil, 0, 0))
				checkAnswers(t, j, failed(want), notchAnswers(j, -1, longWay, 1, 0))
				checkAnswers(t, j, failed(want), notchAnswers(j, math.MaxInt, []int{math.MinInt}, math.MinInt, math.MaxInt))
			}
			checkAnswers(t, j, failed(want), screwAnswers(j, 40000, 200, nil))
			checkAnswers(t, j, failed(want), screwAnswers(j, -1, 201, make([]api.LeadRead, 51)))
			checkAnswers(t, j, failed(want), screwAnswers(j, 40001, -1, wrongReads))
		}
	}
}

// TestNotchesNext is for P6.1 and P1: the errors of notches come before those of steps, and those of their number first.
func TestNotchesNext(t *testing.T) {
	for want, l := range map[api.Errno][]job{api.ErrLong: longNotches(), api.ErrArg: badNotches()} {
		for _, j := range l {
			checkAnswers(t, j, failed(want), notchAnswers(j, 0, nil, 0, 0))
			checkAnswers(t, j, failed(want), notchAnswers(j, -1, make([]int, 301), 1, 0))
			checkAnswers(t, j, failed(want), notchAnswers(j, 5000, []int{-1}, 0, 5000))
		}
	}
	for _, j := range goodJobs() {
		for name, a := range notchAnswers(j, 0, []int{0, 1}, 0, 1) {
			if a.e != api.OK {
				t.Error(name, j, a)
			}
		}
	}
}
