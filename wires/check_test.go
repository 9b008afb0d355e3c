package wires_test

import (
	"slices"
	"testing"

	"acme/api"
	"acme/wires"
)

// metric returns as many angles of 30 degrees.
func metric(count int) change {
	return angles(slices.Repeat([]api.WiresAngle{{Factor: 3000, Half: 866}}, count)...)
}

func sameSets(count int) change {
	return sets(slices.Repeat([]api.WiresSet{set(just(5800), just(5800), just(5800))}, count)...)
}

// goodJobs returns rules and sets that are as they should be, with each limit reached.
func goodJobs() []job {
	low, high := span(1, 41), span(99960, 100000)
	return []job{
		example(), example(sameSets(0)), example(sameSets(10)), example(metric(20)), example(metric(20), sameSets(10)),
		example(angles(api.WiresAngle{Factor: 1001}, api.WiresAngle{Factor: 20000, Half: 20000})),
		example(pitch(span(100, 140))), example(pitch(span(199960, 200000))), example(pitch(just(100))), example(pitch(just(200000))),
		example(press(span(0, 40))), example(press(span(960, 1000))), example(press(just(0))), example(press(just(1000))),
		example(errs(span(-1000, -960))), example(errs(span(960, 1000))), example(errs(span(-20, 20))), example(errs(just(-1000))), example(errs(just(1000))),
		example(sets(set(low, low, low), set(high, high, high), set(just(1), just(100000), just(1)))),
	}
}

// longJobs returns rules and sets with too many angles or sets, with and without further errors.
func longJobs() []job {
	return []job{
		example(metric(21)), example(metric(5000)), example(sameSets(11)), example(sameSets(5000)), example(metric(21), sameSets(11)),
		example(metric(21), pitch(span(1, 0))), example(sameSets(11), press(just(-1))), example(metric(0), sameSets(11)),
		example(angles(make([]api.WiresAngle, 21)...)), example(sets(make([]api.WiresSet, 11)...)),
		{rules: api.WiresRules{Angles: make([]api.WiresAngle, 21)}}, {sets: make([]api.WiresSet, 11)},
	}
}

// badRules returns jobs whose rules are not valid, and that have not too many angles or sets.
func badRules() []job {
	l := []job{{}, example(metric(0))}
	usual := api.WiresAngle{Factor: 3000, Half: 866}
	for _, n := range outside(1001, 20000) {
		bad := api.WiresAngle{Factor: n, Half: 866}
		l = append(l, example(angles(bad)), example(angles(usual, bad)), example(angles(append(slices.Repeat([]api.WiresAngle{usual}, 19), bad)...)))
	}
	for _, n := range outside(0, 20000) {
		bad := api.WiresAngle{Factor: 3000, Half: n}
		l = append(l, example(angles(bad)), example(angles(usual, bad)), example(angles(bad, usual)))
	}
	for _, s := range badSpans(100, 200000) {
		l = append(l, example(pitch(s)))
	}
	for _, s := range badSpans(0, 1000) {
		l = append(l, example(press(s)))
	}
	for _, s := range badSpans(-1000, 1000) {
		l = append(l, example(errs(s)))
	}
	return l
}

// badSets returns jobs one of whose sets is not valid; the rules are.
func badSets() []job {
	var l []job
	for _, s := range badSpans(1, 100000) {
		for i := range 3 {
			bad := set(just(5800), just(5800), just(5800))
			bad.Wires[i] = s
			l = append(l, example(sets(bad)), example(func(j *job) { j.sets = append(j.sets, bad) }), example(sameSets(10), func(j *job) { j.sets[9] = bad }))
		}
	}
	return append(l, example(sets(api.WiresSet{})))
}

// TestCheck is for P5.1.
func TestCheck(t *testing.T) {
	for want, l := range map[api.Errno][]job{api.OK: goodJobs(), api.ErrLong: longJobs(), api.ErrArg: slices.Concat(badRules(), badSets())} {
		for i, j := range l {
			if e := wires.Check(j.rules, j.sets); e != want {
				t.Error(want, i, j, e)
			}
		}
	}
}

// answer is whether all results are zero values, and the error.
type answer struct {
	zero bool
	e    api.Errno
}

func failed(e api.Errno) answer { return answer{zero: true, e: e} }

func valueAnswer[T comparable](value T, e api.Errno) answer {
	var zero T
	return answer{zero: value == zero, e: e}
}

func listAnswer[T any](l []T, e api.Errno) answer { return answer{zero: len(l) == 0, e: e} }

func endsAnswer(low, high []api.WiresTruth, e api.Errno) answer {
	return answer{zero: len(low) == 0 && len(high) == 0, e: e}
}

func seatAnswer(touch, top api.Ratio, seats bool, e api.Errno) answer {
	return answer{zero: touch == api.Ratio{} && top == api.Ratio{} && !seats, e: e}
}

// readingAnswers returns what all functions answer that have readings.
func readingAnswers(j job) map[string]answer {
	return map[string]answer{
		"Sizes": listAnswer(wires.Sizes(j.rules, j.sets, j.readings)),
		"Ends":  endsAnswer(wires.Ends(j.rules, j.sets, j.readings)),
		"Wrong": listAnswer(wires.Wrong(j.rules, j.sets, j.readings)),
	}
}

// checkReadingsFail reports what is not the error that all functions with readings must return.
func checkReadingsFail(t *testing.T, j job, want api.Errno) {
	t.Helper()
	for name, got := range readingAnswers(j) {
		if got != failed(want) {
			t.Error(name, j, got, want)
		}
	}
}

// wrongReadings returns lists of readings with an error of their own, whatever the sets are.
func wrongReadings() []change {
	return []change{shows(), shows(-1, 5), shows(99, 5), shows(0, 10000001), shows(0, 102845, 0, 102845), shows(make([]int, 14)...), shows(0, 102845, 1, 102250)}
}

// TestRulesFirst is for P5.1, P1 and R2: the errors of rules and sets come before those of readings, and with them the results are zero.
func TestRulesFirst(t *testing.T) {
	for want, l := range map[api.Errno][]job{api.ErrLong: longJobs(), api.ErrArg: slices.Concat(badRules(), badSets())} {
		for _, j := range l {
			checkReadingsFail(t, j, want)
			for _, c := range wrongReadings() {
				c(&j)
				checkReadingsFail(t, j, want)
			}
			if got := valueAnswer(wires.Best(j.rules, j.sets)); got != failed(want) {
				t.Error("Best", j, got, want)
			}
		}
	}
}

// TestRulesFirstOne is for P5.1: the errors of rules and of the one set, before that of a truth.
func TestRulesFirstOne(t *testing.T) {
	fine := example().sets[1]
	truth := api.WiresTruth{Size: 93505, Pitch: 10000, Wires: [3]int{5800, 5800, 5800}}
	checkFail := func(r api.WiresRules, s api.WiresSet, want api.Errno) {
		t.Helper()
		for _, truth := range []api.WiresTruth{truth, {}, {Size: 20000001, Angle: -1}} {
			if got := valueAnswer(wires.Shows(r, s, truth)); got != failed(want) {
				t.Error("Shows", r, s, truth, got, want)
			}
		}
		if got := valueAnswer(wires.Width(r, s)); got != failed(want) {
			t.Error("Width", r, s, got, want)
		}
	}
	for _, j := range longJobs() {
		if len(j.rules.Angles) > 20 {
			checkFail(j.rules, fine, api.ErrLong)
			checkFail(j.rules, api.WiresSet{}, api.ErrLong)
		}
	}
	for _, j := range badRules() {
		checkFail(j.rules, fine, api.ErrArg)
		checkFail(j.rules, api.WiresSet{}, api.ErrArg)
	}
	for _, j := range badSets() {
		checkFail(j.rules, j.sets[len(j.sets)-1], api.ErrArg)
	}
}

// sixReadings returns as many sets as there may be, and as many readings.
func sixReadings() job {
	return example(sameSets(10), shows(0, 102240, 2, 102241, 4, 102240, 5, 102239, 8, 102240, 9, 102240))
}

// TestReadings is for P5.3, P5.4 and P5.5: how many readings there may be.
func TestReadings(t *testing.T) {
	for name, got := range readingAnswers(sixReadings()) {
		if got.zero || got.e != api.OK {
			t.Error(name, got)
		}
	}
	for _, l := range [][]api.WiresReading{nil, {}} {
		for _, j := range []job{example(), sixReadings(), example(sameSets(0))} {
			j.readings = l
			checkReadingsFail(t, j, api.ErrNone)
		}
	}
	for _, last := range []api.WiresReading{{Set: 9, Shown: 102240}, {Set: 10}, {Set: -1}, {Set: 9, Shown: 10000001}, {}} {
		for _, at := range []int{0, 3, 6} {
			j := sixReadings()
			j.readings = slices.Insert(j.readings, at, last)
			checkReadingsFail(t, j, api.ErrLong)
		}
	}
	j := sixReadings()
	j.readings = slices.Repeat(j.readings, 500)
	checkReadingsFail(t, j, api.ErrLong)
}

// badReadings returns readings with one error for the sets of the examples, where the reading before is of the set 0.
func badReadings(want api.Errno) []api.WiresReading {
	var l []api.WiresReading
	switch want {
	case api.ErrNone:
		for _, n := range append(outside(0, 1), 10) {
			l = append(l, readings(n, 102240, n, 10000001, n, -10000001)...)
		}
	case api.ErrArg:
		for _, n := range outside(-10000000, 10000000) {
			l = append(l, readings(1, n, 0, n)...)
		}
	case api.ErrForm:
		l = readings(0, 102845, 0, 10000000, 0, -10000000, 0, 0)
	}
	return l
}

// TestReadingErrors is for P5.3, P5.4, P5.5 and R1: the first reading with an error decides, and of its errors the one named first.
func TestReadingErrors(t *testing.T) {
	kinds := []api.Errno{api.ErrNone, api.ErrArg, api.ErrForm}
	for _, want := range kinds {
		for _, bad := range badReadings(want) {
			j := example(shows(0, 102845))
			j.readings = append(j.readings, bad)
			checkReadingsFail(t, j, want)
			for _, later := range kinds {
				more := copyOf(j)
				more.readings = append(more.readings, badReadings(later)...)
				more.readings = more.readings[:min(len(more.readings), api.MaxWiresReadings)]
				checkReadingsFail(t, more, want)
			}
			if want != api.ErrForm {
				j.readings = j.readings[1:]
				checkReadingsFail(t, j, want)
			}
		}
	}
	checkReadingsFail(t, example(sameSets(0), shows(0, 0)), api.ErrNone)
	checkReadingsFail(t, example(sameSets(10), shows(9, 5, 10, 5)), api.ErrNone)
	checkReadingsFail(t, example(sameSets(10), shows(1, 5, 9, 5, 8, 5)), api.ErrForm)
	checkReadingsFail(t, example(sameSets(10), shows(1, 5, 9, 5, 9, 5, 10, 5)), api.ErrForm)
	checkReadingsFail(t, example(sameSets(10), shows(1, 5, 9, 5, 9, 10000001)), api.ErrArg)
}

// TestReadingLimits is for P5.3 and R7: each number of a set, and the greatest and least number that can be shown.
func TestReadingLimits(t *testing.T) {
	for _, shown := range []int{-10000000, 10000000} {
		for number := range 10 {
			j := example(sameSets(10), shows(number, shown))
			want := []api.Span{span(shown-102240+93499, shown-102240+93503)}
			if got, e := wires.Sizes(j.rules, j.sets, j.readings); !slices.Equal(got, want) || e != api.OK {
				t.Error(j, got, e)
			}
		}
	}
}
