package flange_test

import (
	"reflect"
	"slices"
	"testing"

	"acme/api"
	"acme/flange"
)

// both keeps a result and its error together, and pair keeps two.
func both[T any](value T, e api.Errno) any { return [2]any{value, e} }

func pair[T, U any](first T, second U, e api.Errno) any { return [3]any{first, second, e} }

// allAnswers returns the results of all functions.
func allAnswers(r api.FlangeRules, a asked) []any {
	return []any{
		flange.Check(r), both(flange.Tighten(r, a.forces, a.step)), both(flange.Run(r, a.plan)), pair(flange.Judge(r, a.plan)),
		both(flange.Rounds(r, a.order, a.torque)), pair(flange.Order(r, a.torque)), both(flange.Right(r, a.order, a.rounds, a.torques)), both(flange.Retouch(r, a.plan, a.torque)),
	}
}

// TestTerminates is for P1: no function panics, whatever its arguments are.
func TestTerminates(t *testing.T) {
	for _, n := range extremes() {
		for _, m := range extremes() {
			s := span(n, m)
			strange := []asked{
				{forces: slices.Repeat([]api.Span{s}, 4), step: api.FlangeStep{Bolt: n, Torque: m}, plan: plan(n, m), order: []int{n, m, 0, 1}, torque: n, rounds: m, torques: []int{n, m}},
				{forces: []api.Span{s, s, s, just(0)}, step: api.FlangeStep{Torque: m}, plan: plan(n, 0, 1, 2, 3), order: upTo(4), torque: m, rounds: n, torques: []int{n, m}},
				{forces: make([]api.Span, 4), step: api.FlangeStep{Bolt: n}, plan: plan(0, n, m), order: upTo(4), torque: m, rounds: 20, torques: []int{n, m}},
				usual(4), {},
			}
			k, other := example().Kind, spread(0)
			k.Lead, k.Thread, k.Head, k.Yield = n, m, n, s
			other.OnThread, other.OnHead, other.Stiff, other.Spring = s, s, s, s
			for _, r := range []api.FlangeRules{
				{}, example(), example(bolts(n)), example(shares(n, m)), example(shares(n)), example(need(n)), example(kind(k)), example(kind(other)), example(yields(s)), example(bolts(n), shares(m)),
				{Bolts: n, Kind: k, Share: []int{n, m}, Need: m}, example(plain(), need(n), yields(s)), example(even(12, 500), plain()),
			} {
				for _, a := range strange {
					allAnswers(r, a)
				}
			}
		}
	}
}

// manyAsks returns flanges and what they are asked, right and wrong.
func manyAsks(t *testing.T) (rules []api.FlangeRules, asks []asked) {
	r := dice()
	for _, wrong := range badRules() {
		rules = append(rules, wrong[:10]...)
	}
	rules, asks = append(rules, goodRules()...), append(wrongAsked(), usual(3), usual(4), usual(12), asked{})
	for range 20 {
		one, torque := anyRules(r, 12), anyTorque(r)
		rules = append(rules, wanting(t, r, one, torque))
		a := usual(one.Bolts)
		a.plan, a.order, a.torque, a.torques = anyPlan(r, one, 30), r.Perm(one.Bolts), torque, []int{torque, torque / 2, 0}
		asks = append(asks, a)
	}
	return rules, asks
}

// behind returns a list with some more behind its end, and that end.
func behind[T any](l []T, more ...T) (list, whole []T) {
	whole = append(slices.Clone(l), more...)
	return whole[:len(l)], whole
}

// TestEqualResults is for P2 and R4: equal arguments have equal results, whatever was called before, and no argument is changed, nor what lies behind its end.
func TestEqualResults(t *testing.T) {
	rules, asks := manyAsks(t)
	var once []any
	for _, r := range rules {
		for _, a := range asks {
			var forces []api.Span
			var steps []api.FlangeStep
			var share, order, torques []int
			r.Share, share = behind(r.Share, 97, 98)
			a.forces, forces = behind(a.forces, span(97, 98), just(99))
			a.plan, steps = behind(a.plan, plan(97, 1, 2)...)
			a.order, order = behind(a.order, 97, 98)
			a.torques, torques = behind(a.torques, 97, 98)
			before := []any{slices.Clone(share), slices.Clone(forces), slices.Clone(steps), slices.Clone(order), slices.Clone(torques)}
			once = append(once, allAnswers(r, a))
			if after := []any{share, forces, steps, order, torques}; !reflect.DeepEqual(before, after) {
				t.Error("an argument has changed", r, before, after)
			}
		}
	}
	for i, r := range rules {
		for k, a := range asks {
			if again := allAnswers(r, a); !reflect.DeepEqual(once[i*len(asks)+k], any(again)) {
				t.Error("results differ", r, a, again)
			}
		}
	}
}

// spoil changes a list, and what lies behind its end.
func spoil[T any](bad T, l []T) {
	for i := range l {
		l[i] = bad
	}
	_ = append(l, bad, bad)
}

// TestNewMemory is for R4: results share no memory with arguments or with one another.
func TestNewMemory(t *testing.T) {
	r, six := example(need(12433)), example(plain(), even(6, 0), need(1000))
	forces, order, torques := []api.Span{span(1, 2), span(3, 4), span(5, 6), just(100000)}, []int{0, 2, 1, 3}, []int{66800000, 66800000, 100200000}
	answers := func() []any {
		first, _ := flange.Tighten(r, forces, api.FlangeStep{Bolt: 3, Torque: 0})
		now, _ := flange.Run(r, plan(66800000, 0, 1))
		best, _, _ := flange.Order(r, 66800000)
		right, _ := flange.Right(r, order, 2, torques)
		again, _ := flange.Retouch(six, plan(1000, 0, 2, 3), 1000)
		copies := []any{slices.Clone(first), slices.Clone(now.Forces), slices.Clone(now.Lost), slices.Clone(best), slices.Clone(right), slices.Clone(again)}
		spoil(just(-1), now.Forces)
		if lost := []api.Span{span(3470, 4000), just(0), span(5205, 6000), span(5205, 6000)}; !slices.Equal(now.Lost, lost) {
			t.Error("Forces and Lost share memory", now)
		}
		spoil(just(-1), first)
		spoil(just(-1), now.Lost)
		for _, l := range [][]int{best, right, again} {
			spoil(-1, l)
		}
		return copies
	}
	want := []any{
		[]api.Span{span(1, 2), span(3, 4), span(5, 6), just(100000)}, []api.Span{span(13350, 16530), span(17350, 20000), just(0), just(0)},
		[]api.Span{span(3470, 4000), just(0), span(5205, 6000), span(5205, 6000)}, []int{0, 2, 1, 3}, []int{0, 1, 2}, []int{1, 4, 5},
	}
	for range 2 {
		if got := answers(); !reflect.DeepEqual(got, want) {
			t.Error("results share memory", got, want)
		}
	}
	if !slices.Equal(forces, []api.Span{span(1, 2), span(3, 4), span(5, 6), just(100000)}) || !slices.Equal(order, []int{0, 2, 1, 3}) || !slices.Equal(torques, []int{66800000, 66800000, 100200000}) {
		t.Error("an argument has changed", forces, order, torques)
	}
}

// TestEmpty is for R3: a nil list and an empty one are the same.
func TestEmpty(t *testing.T) {
	for _, r := range []api.FlangeRules{example(), example(need(0)), example(shares()), {}, example(bolts(1), shares())} {
		empty, none := usual(4), usual(4)
		empty.forces, empty.plan, empty.order, empty.torques = []api.Span{}, []api.FlangeStep{}, []int{}, []int{}
		none.forces, none.plan, none.order, none.torques = nil, nil, nil, nil
		same := r
		if len(r.Share) == 0 {
			same.Share = []int{}
		}
		if first, second := allAnswers(r, none), allAnswers(same, empty); !reflect.DeepEqual(first, second) {
			t.Error(r, first, second)
		}
		empty.order, none.order = upTo(4), upTo(4)
		if first, second := allAnswers(r, none), allAnswers(same, empty); !reflect.DeepEqual(first, second) {
			t.Error(r, first, second)
		}
	}
}

// TestFull is for R7: as much as there may be of all, with numbers as great as they can be.
func TestFull(t *testing.T) {
	r := example(plain(), even(12, 500), need(100000000))
	a := asked{
		forces: slices.Repeat(spans(100000000), 12), step: api.FlangeStep{Bolt: 11, Torque: 100000000}, plan: plan(100000000, slices.Repeat([]int{11}, 200)...),
		order: upTo(12), torque: 100000000, rounds: 20, torques: slices.Repeat([]int{100000000}, 50),
	}
	lost := append(slices.Repeat(spans(50000000), 11), just(0))
	forces := append(make([]api.Span, 11), just(100000000))
	var none []int
	want := []any{
		api.OK, both(a.forces, api.OK), both(api.FlangeNow{Forces: forces, Most: 100000000, Lost: lost}, api.OK), pair(false, true, api.OK),
		both(0, api.ErrState), pair(none, 0, api.ErrLong), both(none, api.OK), both(none, api.ErrState),
	}
	if got := allAnswers(r, a); !reflect.DeepEqual(got, want) {
		t.Error(got, want)
	}
}
