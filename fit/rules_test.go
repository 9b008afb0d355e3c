package fit_test

import (
	"math"
	"reflect"
	"slices"
	"testing"

	"acme/api"
	"acme/fit"
)

// TestTerminates is for P1: no function panics, whatever its arguments are.
func TestTerminates(t *testing.T) {
	for _, n := range extremes() {
		for _, m := range extremes() {
			s := span(n, m)
			form := api.ThreadForm{Pitch: n, Left: m, Right: n, Above: m, Below: n, Starts: m, Taper: n}
			wild := turned(n, m, n, m, m, n)
			rules := api.FitRules{Step: s, Thick: s, Left: s, Right: s}
			for _, thread := range []api.FitThread{wild, lean(0, 1, 2, 3), {}, {Left: n, Right: m}} {
				for _, f := range []api.ThreadForm{form, metric(), straight()} {
					for _, depth := range []api.Span{s, usual()} {
						fit.Check(thread)
						fit.Shift(thread, lean(0, 1), n, m, n, depth)
						fit.Shift(lean(0, 1), thread, m, n, m, depth)
						fit.Deep(thread, lean(0, 1), depth)
						fit.Deep(lean(0, 1), thread, depth)
						fit.Screw(f, thread, depth)
						fit.Nut(f, thread, depth)
						fit.Show(f, n, m, n, depth)
						fit.Show(f, 0, 0, m, depth)
						fit.Cost(f, rules, n, depth)
						fit.Cost(f, rules, 1, depth)
						fit.Goers([]api.FitThread{thread, wild}, []api.FitThread{lean(0, 1), thread}, depth)
						fit.Goers(nil, []api.FitThread{thread}, depth)
					}
				}
			}
		}
	}
}

// both keeps a result and its error together.
func both[T any](value T, e api.Errno) any { return [2]any{value, e} }

// shown keeps all results of Show together.
func shown(screw, nut api.FitThread, goes bool, e api.Errno) any { return [4]any{screw, nut, goes, e} }

// allAnswers returns the results of all functions with some threads.
func allAnswers(threads []api.FitThread) []any {
	var l []any
	for i, screw := range threads {
		nut := threads[len(threads)-1-i]
		l = append(l, fit.Check(screw), both(fit.Shift(screw, nut, 0, 0, 1, usual())), both(fit.Deep(screw, nut, usual())))
		l = append(l, both(fit.Screw(metric(), screw, usual())), both(fit.Nut(metric(), screw, usual())), both(fit.Goers(threads[:i], threads[i:], usual())))
		l = append(l, shown(fit.Show(metric(), i, -i, 1+i, usual())), both(fit.Cost(metric(), rules(), 1+i, usual())))
	}
	return append(l, both(fit.Goers(threads, threads, usual())), both(fit.Goers(threads, threads, span(1, 0))))
}

func copies(threads []api.FitThread) []api.FitThread {
	l := slices.Clone(threads)
	for i := range l {
		l[i] = copyOf(l[i])
	}
	return l
}

// TestEqualResults is for P2 and R4: equal arguments have equal results, whatever was called before, and no argument is changed.
func TestEqualResults(t *testing.T) {
	lots := [][]api.FitThread{goodThreads(), longThreads()[:1], argThreads(), append(goodThreads(), argThreads()[:2]...)}
	var once [][]any
	for _, lot := range lots {
		before := copies(lot)
		once = append(once, allAnswers(lot))
		if !reflect.DeepEqual(before, lot) {
			t.Error("a thread has changed", before, lot)
		}
	}
	for i, lot := range lots {
		if twice := allAnswers(copies(lot)); !reflect.DeepEqual(once[i], twice) {
			t.Error("results differ", i, once[i], twice)
		}
	}
}

// TestNewMemory is for R4: a result shares memory neither with an argument nor with another result.
func TestNewMemory(t *testing.T) {
	screws, nuts := goodThreads(), goodThreads()
	pairs, _ := fit.Goers(screws, nuts, usual())
	want := slices.Clone(pairs)
	for i := range pairs {
		pairs[i] = [2]int{math.MinInt, math.MaxInt}
	}
	if got, e := fit.Goers(screws, nuts, usual()); len(got) == 0 || !slices.Equal(got, want) || e != api.OK {
		t.Error(got, e)
	}
	if !reflect.DeepEqual(screws, goodThreads()) || !reflect.DeepEqual(nuts, goodThreads()) {
		t.Error("a thread has changed", screws, nuts)
	}
	// With the size 0 both threads that are shown are the same.
	screw, nut, _, _ := fit.Show(metric(), 0, 0, 3, usual())
	wantNut := copyOf(nut)
	for i := range screw.Turns {
		screw.Turns[i] = api.FitTurn{Left: math.MaxInt, Right: math.MinInt}
	}
	again, nutAgain, _, _ := fit.Show(metric(), 0, 0, 3, usual())
	if !reflect.DeepEqual(nut, wantNut) || !reflect.DeepEqual(nutAgain, wantNut) || !reflect.DeepEqual(again, wantNut) {
		t.Error(nut, again, nutAgain, wantNut)
	}
	_ = append(again.Turns, api.FitTurn{Left: 7, Right: 8})
	_ = append(nutAgain.Turns[:1], api.FitTurn{Left: 9, Right: 9})
	if !reflect.DeepEqual(again, wantNut) {
		t.Error("both threads share memory", again)
	}
}

// TestEmpty is for R3: a nil list and an empty one are the same.
func TestEmpty(t *testing.T) {
	for _, list := range [][]api.FitThread{nil, {}} {
		for _, other := range [][]api.FitThread{nil, {}, {lean(0, 1)}} {
			for _, got := range []answer{listAnswer(fit.Goers(list, other, usual())), listAnswer(fit.Goers(other, list, usual()))} {
				if got != (answer{zero: true, e: api.OK}) {
					t.Error(list, other, got)
				}
			}
		}
	}
	for _, turns := range [][]api.FitTurn{nil, {}} {
		if e := fit.Check(api.FitThread{Turns: turns, Left: 577, Right: 577}); e != api.ErrArg {
			t.Error(e)
		}
	}
}
