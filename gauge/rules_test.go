package gauge_test

import (
	"math"
	"reflect"
	"slices"
	"testing"

	"acme/api"
	"acme/gauge"
)

// both keeps a result and its error together.
func both[T any](value T, e api.Errno) any { return [2]any{value, e} }

// three keeps two results and their error together.
func three[T any](a, b T, e api.Errno) any { return [3]any{a, b, e} }

// allAnswers returns the results of all functions.
func allAnswers(r api.GaugeRules, l history, limit, master int) []any {
	return []any{
		gauge.Check(r), both(gauge.Size(r, l)), both(gauge.Master(r, l, master)), both(gauge.Wrong(r, l)), both(gauge.Doubt(r, l)),
		three(gauge.Beyond(r, l, limit)), both(gauge.Lasts(r, l, limit)), three(gauge.Gain(r, l, limit, master)),
		both(gauge.Plan(r.Ring, r.Wear, master, limit%1000, limit)),
	}
}

// TestTerminates is for P1: no function panics, whatever its arguments are.
func TestTerminates(t *testing.T) {
	for _, n := range extremes() {
		for _, m := range extremes() {
			s := span(n, m)
			for _, r := range []api.GaugeRules{
				example(), ring(), {New: s, Wear: s, Masters: []api.Span{s, s}}, {Ring: true, New: s, Wear: span(m, n)},
				example(func(r *api.GaugeRules) { r.Wear = s }), ring(func(r *api.GaugeRules) { r.Masters[1] = s }),
			} {
				for _, l := range []history{nil, contradictory(), events(tried(n), goes(m), tried(m), stays(n)), events(api.GaugeEvent{Pieces: n, Master: m, Goes: true}), events(tried(1), goes(0), stays(1))} {
					allAnswers(r, l, n, m)
					allAnswers(r, l, 4980, m)
					allAnswers(r, l, n, 0)
				}
				gauge.Plan(r.Ring, s, n, m, n)
				gauge.Plan(r.Ring, span(0, 1), n, m, m)
				gauge.Plan(r.Ring, span(0, 1), 1, 1, n)
			}
		}
	}
}

// TestEqualResults is for P2 and R4: equal arguments have equal results, whatever was called before, and no argument is changed, nor what lies behind its end.
func TestEqualResults(t *testing.T) {
	all := slices.Concat(goodRules(), longRules(), argRules()[:20])
	histories := []history{nil, contradictory(), contradictory()[:3], events(stays(0), tried(50)), events(goes(99)), longHistories()[0]}
	var once [][]any
	for _, r := range all {
		masters := append(slices.Clone(r.Masters), span(7, 7), span(8, 8))
		r.Masters = masters[:len(r.Masters)]
		for _, l := range histories {
			more := and(l, stays(98), stays(97))
			before, events := slices.Clone(masters), slices.Clone(more)
			once = append(once, allAnswers(r, more[:len(l)], 4980, 0))
			if !slices.Equal(before, masters) || !slices.Equal(events, more) {
				t.Error("an argument has changed", r, l)
			}
		}
	}
	for i, r := range all {
		for k, l := range histories {
			if again := allAnswers(copyOf(r), slices.Clone(l), 4980, 0); !reflect.DeepEqual(once[i*len(histories)+k], again) {
				t.Error("results differ", r, l, again)
			}
		}
	}
}

// TestNewMemory is for R4: a result shares memory neither with an argument nor with another result.
func TestNewMemory(t *testing.T) {
	l := contradictory()
	checks, _ := gauge.Doubt(example(), l)
	for i := range checks {
		checks[i] = math.MinInt
	}
	if got, e := gauge.Doubt(example(), l); !slices.Equal(got, []int{1, 3}) || e != api.OK {
		t.Error(got, e)
	}
	if !slices.Equal(l, contradictory()) {
		t.Error("a history has changed", l)
	}
}

// TestEmpty is for R3: a nil list and an empty one are the same.
func TestEmpty(t *testing.T) {
	for _, masters := range [][]api.Span{nil, {}} {
		for _, l := range []history{nil, {}} {
			r := example(func(r *api.GaugeRules) { r.Masters = masters })
			if got, want := allAnswers(r, l, 4980, 0), allAnswers(example(func(r *api.GaugeRules) { r.Masters = nil }), nil, 4980, 0); !reflect.DeepEqual(got, want) {
				t.Error(got, want)
			}
			if got, e := gauge.Size(r, l); got != r.New || e != api.OK {
				t.Error(got, e)
			}
			if got, e := gauge.Doubt(r, l); len(got) != 0 || e != api.ErrNone {
				t.Error(got, e)
			}
		}
	}
}

// TestFull is for R7 and P1: as many masters and events as there may be, and all functions with them.
func TestFull(t *testing.T) {
	r, l := chain(span(1, 10))
	l = slices.Concat(l, l, l, l)[:api.MaxGaugeEvents]
	for name, got := range historyAnswers(r, l, 0, 9) {
		if got.e != api.OK && got.e != api.ErrState && got.e != api.ErrNone {
			t.Error(name, got)
		}
	}
	// The second time it cannot stay before the first master, into which it went before.
	if at, e := gauge.Wrong(r, l); at != 30 || e != api.OK {
		t.Error(at, e)
	}
	// All masters contradict then, so that no single check is in doubt.
	if got, e := gauge.Doubt(r, l); len(got) != 0 || e != api.OK {
		t.Error(got, e)
	}
}
