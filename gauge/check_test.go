package gauge_test

import (
	"slices"
	"testing"

	"acme/api"
	"acme/gauge"
)

// masters returns a change to so many masters of a span.
func masters(n int, s api.Span) change {
	return func(r *api.GaugeRules) { r.Masters = slices.Repeat([]api.Span{s}, n) }
}

// goodRules returns rules that are as they should be, with each limit reached.
func goodRules() []api.GaugeRules {
	whole, last := span(0, 10000000), span(10000000, 10000000)
	return []api.GaugeRules{
		{}, {Ring: true}, example(), ring(), example(masters(10, span(4990, 4990))), ring(masters(10, span(0, 0))),
		{New: whole, Wear: span(0, 10000), Masters: []api.Span{whole, span(0, 0), last}},
		{Ring: true, New: last, Wear: span(10000, 10000), Masters: []api.Span{last, whole}},
		example(func(r *api.GaugeRules) { r.Wear = span(0, 0) }),
		example(func(r *api.GaugeRules) { r.New = span(0, 0) }),
		example(func(r *api.GaugeRules) { r.Masters = nil }),
	}
}

// longRules returns rules with too many masters, with and without further errors.
func longRules() []api.GaugeRules {
	return []api.GaugeRules{
		example(masters(11, span(4990, 4990))), ring(masters(11, span(0, 1))), example(masters(5000, span(0, 0))),
		example(masters(11, span(1, 0))),
		example(masters(11, span(0, 0)), func(r *api.GaugeRules) { r.New = span(1, 0) }),
		example(masters(11, span(0, 0)), func(r *api.GaugeRules) { r.Wear = span(0, 10001) }),
	}
}

// argRules returns rules with a span that is not valid, and not too many masters.
func argRules() []api.GaugeRules {
	var l []api.GaugeRules
	for _, s := range badSpans(10000000) {
		l = append(l,
			example(func(r *api.GaugeRules) { r.New = s }), ring(func(r *api.GaugeRules) { r.New = s }),
			example(func(r *api.GaugeRules) { r.Masters[0] = s }), ring(func(r *api.GaugeRules) { r.Masters[1] = s }),
			example(masters(10, span(7, 7)), func(r *api.GaugeRules) { r.Masters[9] = s }),
			api.GaugeRules{Masters: []api.Span{s}},
		)
	}
	for _, s := range badSpans(10000) {
		l = append(l, example(func(r *api.GaugeRules) { r.Wear = s }), ring(func(r *api.GaugeRules) { r.Wear = s }))
	}
	return l
}

// TestCheck is for P4.1.
func TestCheck(t *testing.T) {
	for want, l := range map[api.Errno][]api.GaugeRules{api.OK: goodRules(), api.ErrLong: longRules(), api.ErrArg: argRules()} {
		for i, r := range l {
			if e := gauge.Check(r); e != want {
				t.Error(want, i, r, e)
			}
		}
	}
}

// answer is whether all results are zero values, and the error.
type answer struct {
	zero bool
	e    api.Errno
}

func failed(e api.Errno) answer { return answer{zero: true, e: e} }

func valueAnswer[T comparable](value T, e api.Errno) answer {
	var zero T
	return answer{zero: value == zero, e: e}
}

func listAnswer[T any](l []T, e api.Errno) answer { return answer{zero: len(l) == 0, e: e} }

func pairAnswer[T comparable](a, b T, e api.Errno) answer {
	var zero T
	return answer{zero: a == zero && b == zero, e: e}
}

// historyAnswers returns what all functions answer that have a history.
func historyAnswers(r api.GaugeRules, l history, limit, master int) map[string]answer {
	return map[string]answer{
		"Size":   valueAnswer(gauge.Size(r, l)),
		"Master": valueAnswer(gauge.Master(r, l, master)),
		"Wrong":  valueAnswer(gauge.Wrong(r, l)),
		"Doubt":  listAnswer(gauge.Doubt(r, l)),
		"Beyond": pairAnswer(gauge.Beyond(r, l, limit)),
		"Lasts":  valueAnswer(gauge.Lasts(r, l, limit)),
		"Gain":   pairAnswer(gauge.Gain(r, l, limit, master)),
	}
}

// checkAllFail reports what is not the error that all functions with a history must return.
func checkAllFail(t *testing.T, r api.GaugeRules, l history, limit, master int, want api.Errno) {
	t.Helper()
	for name, got := range historyAnswers(r, l, limit, master) {
		if got != failed(want) {
			t.Error(name, r, l, limit, master, got, want)
		}
	}
}

// longHistories returns histories with too many events, with and without further errors.
func longHistories() []history {
	many := slices.Repeat(events(tried(1)), 101)
	return []history{
		many, slices.Repeat(many, 50), slices.Repeat(events(goes(0), stays(0)), 51),
		and(many, stays(99)), and(events(tried(0)), many...), make(history, 101),
	}
}

// badEvents returns events with an error, each alone, for rules with two masters.
func badEvents(want api.Errno) history {
	var l history
	for _, n := range append(extremes(), -2, 2, 3, 10) {
		if want == api.ErrNone && n != api.GaugeNone && n != 0 && n != 1 {
			// Further errors of the same event come later.
			l = append(l, goes(n), stays(n), api.GaugeEvent{Pieces: 5, Master: n, Goes: true}, api.GaugeEvent{Pieces: -1, Master: n})
		}
		if want == api.ErrArg && n != 0 {
			l = append(l, api.GaugeEvent{Pieces: n}, api.GaugeEvent{Pieces: n, Master: 1, Goes: true})
		}
		if want == api.ErrArg && (n < 1 || n > 100000) {
			l = append(l, tried(n), api.GaugeEvent{Pieces: n, Master: api.GaugeNone, Goes: true})
		}
	}
	if want == api.ErrArg {
		l = append(l, tried(100001), api.GaugeEvent{Pieces: 5, Master: api.GaugeNone, Goes: true})
	}
	return l
}

// TestRulesFirst is for P4.1, P1 and R2: the errors of rules come before those of a history and all else, and with them the results are zero.
func TestRulesFirst(t *testing.T) {
	for want, l := range map[api.Errno][]api.GaugeRules{api.ErrLong: longRules(), api.ErrArg: argRules()} {
		for _, r := range l {
			checkAllFail(t, r, nil, 4980, 0, want)
			checkAllFail(t, r, contradictory(), -1, 99, want)
			checkAllFail(t, r, longHistories()[0], 4980, 0, want)
			checkAllFail(t, r, events(stays(99)), 10000001, -1, want)
			checkAllFail(t, r, events(tried(0)), 4980, 0, want)
		}
	}
}

// TestLongHistory is for P4.1: too many events come before each event.
func TestLongHistory(t *testing.T) {
	for _, l := range longHistories() {
		for _, r := range []api.GaugeRules{example(), ring()} {
			checkAllFail(t, r, l, 4980, 0, api.ErrLong)
			checkAllFail(t, r, l, -1, 2, api.ErrLong)
		}
	}
}

// TestEvents is for P4.1: the first event with an error decides, and of its errors the master that there is not.
func TestEvents(t *testing.T) {
	for _, want := range []api.Errno{api.ErrNone, api.ErrArg} {
		other := api.ErrNone + api.ErrArg - want
		for _, bad := range badEvents(want) {
			for _, l := range []history{
				events(bad), events(tried(100000), goes(0), stays(1), bad), and(contradictory(), bad),
				events(bad, badEvents(other)[0]), events(tried(1), bad, tried(1), badEvents(other)[1]),
				and(slices.Repeat(events(tried(1)), 99), bad),
			} {
				checkAllFail(t, example(), l, 4980, 0, want)
				checkAllFail(t, ring(), l, -1, 2, want)
			}
		}
	}
	// Each number of a master is one of these rules only.
	checkAllFail(t, example(masters(0, span(0, 0))), events(goes(0)), 4980, 0, api.ErrNone)
	checkAllFail(t, example(masters(9, span(0, 0))), events(stays(9)), 4980, 0, api.ErrNone)
	if e := valueAnswer(gauge.Size(example(masters(10, span(5005, 5005))), events(stays(9), goes(9)))); e != failed(api.ErrState) {
		t.Error(e)
	}
}

// TestLimit is for P4.6, P4.7 and P4.8: a limit that is out of range comes before the master and before histories that contradict.
func TestLimit(t *testing.T) {
	for _, limit := range badLimits(10000000) {
		for _, r := range []api.GaugeRules{example(), ring()} {
			for _, l := range []history{nil, events(tried(200)), contradictory()} {
				for name, got := range map[string]answer{
					"Beyond":    pairAnswer(gauge.Beyond(r, l, limit)),
					"Lasts":     valueAnswer(gauge.Lasts(r, l, limit)),
					"Gain":      pairAnswer(gauge.Gain(r, l, limit, 0)),
					"Gain none": pairAnswer(gauge.Gain(r, l, limit, 2)),
				} {
					if got != failed(api.ErrRange) {
						t.Error(name, limit, r, l, got)
					}
				}
			}
		}
	}
}

// TestNoMaster is for P4.3 and P4.8: a master that there is not comes before histories that contradict.
func TestNoMaster(t *testing.T) {
	for _, master := range append(badLimits(1), 2, 10) {
		for _, r := range []api.GaugeRules{example(), ring()} {
			for _, l := range []history{nil, events(tried(200)), contradictory()} {
				if got := valueAnswer(gauge.Master(r, l, master)); got != failed(api.ErrNone) {
					t.Error("Master", master, r, l, got)
				}
				if got := pairAnswer(gauge.Gain(r, l, 4980, master)); got != failed(api.ErrNone) {
					t.Error("Gain", master, r, l, got)
				}
			}
		}
	}
	none := example(masters(0, span(0, 0)))
	if got := valueAnswer(gauge.Master(none, nil, 0)); got != failed(api.ErrNone) {
		t.Error(got)
	}
	if got := pairAnswer(gauge.Gain(none, nil, 0, 0)); got != failed(api.ErrNone) {
		t.Error(got)
	}
}

// TestContradicts is for P4.2, P4.3, P4.6, P4.7 and P4.8: histories that contradict.
func TestContradicts(t *testing.T) {
	for _, l := range []history{
		contradictory(), events(goes(0)), events(stays(1), goes(1)), events(tried(200), goes(0), stays(0)), events(tried(200), goes(1)),
		and(contradictory(), tried(1), goes(0), stays(1)),
	} {
		for _, r := range []api.GaugeRules{example(), ring()} {
			for name, got := range historyAnswers(r, l, 4980, 0) {
				want := failed(api.ErrState)
				if name != "Wrong" && name != "Doubt" && got != want {
					t.Error(name, r, l, got)
				}
			}
		}
	}
}
