package flange_test

import (
	"math"
	"slices"
	"testing"

	"acme/api"
	"acme/flange"
)

// goodRules returns flanges that are as they should be, with each limit reached.
func goodRules() []api.FlangeRules {
	l := []api.FlangeRules{example(), example(plain()), example(heavy()), example(need(0)), example(need(100000000)), example(yields(just(1))), example(yields(span(1, 100000000)))}
	for count := 3; count <= 12; count++ {
		l = append(l, example(even(count, 0)), example(even(count, 500)), example(even(count, 77)))
	}
	return append(l, example(around(12, 0, 500, 1, 499, 0, 500)), example(shares(500, 0)), example(shares(0, 500)))
}

// badKinds returns kinds of bolts with an error.
func badKinds() []api.BoltKind {
	var l []api.BoltKind
	for _, c := range []func(k *api.BoltKind){
		func(k *api.BoltKind) { *k = api.BoltKind{} }, func(k *api.BoltKind) { k.Lead = 0 }, func(k *api.BoltKind) { k.Lead = 100001 }, func(k *api.BoltKind) { k.Thread = -1 }, func(k *api.BoltKind) { k.Head = 100001 },
		func(k *api.BoltKind) { k.OnThread = span(1, 0) }, func(k *api.BoltKind) { k.OnThread = span(0, 1001) }, func(k *api.BoltKind) { k.OnHead = span(-1, 0) },
		func(k *api.BoltKind) { k.Stiff = just(0) }, func(k *api.BoltKind) { k.Spring = span(1, 100001) }, func(k *api.BoltKind) { k.Yield = span(0, 5) }, func(k *api.BoltKind) { k.Yield = span(5, 100000001) }, func(k *api.BoltKind) { k.Yield = span(6, 5) },
	} {
		k := example().Kind
		c(&k)
		l = append(l, k)
	}
	return l
}

// badRules returns flanges with an error, by what it is.
func badRules() map[api.Errno][]api.FlangeRules {
	wrong, long := []api.FlangeRules{{}}, []api.FlangeRules{}
	for _, n := range outside(3, 12) {
		wrong = append(wrong, example(bolts(n)), example(bolts(n), shares()), example(bolts(n), kind(api.BoltKind{})))
	}
	// The number of bolts comes before the number of shares.
	wrong = append(wrong, example(around(2, 5)), example(around(13, 1, 2, 3, 4, 5, 6)), example(around(0)), example(around(1)), example(bolts(-4)))
	for count := 3; count <= 12; count++ {
		for _, other := range []int{0, count/2 - 1, count/2 + 1, count, 1000} {
			if other != count/2 {
				long = append(long, example(around(count, make([]int, other)...)))
			}
		}
		// The number of shares comes before all else.
		for _, c := range []change{kind(api.BoltKind{}), need(-1), shares(slices.Repeat([]int{-1}, count/2+1)...)} {
			long = append(long, example(around(count, make([]int, count/2+1)...), c))
		}
	}
	for _, k := range badKinds() {
		wrong = append(wrong, example(kind(k)))
	}
	for _, n := range outside(0, 500) {
		wrong = append(wrong, example(shares(n, 5)), example(shares(5, n)), example(even(3, n)), example(around(12, 1, 2, 3, 4, 5, n)), example(around(12, 1, 2, n, 4, 5, 6)))
	}
	for _, n := range outside(0, 100000000) {
		wrong = append(wrong, example(need(n)))
	}
	return map[api.Errno][]api.FlangeRules{api.ErrArg: wrong, api.ErrForm: long}
}

// TestCheck is for P10.1.
func TestCheck(t *testing.T) {
	for _, r := range goodRules() {
		if e := flange.Check(r); e != api.OK {
			t.Error(r, e)
		}
	}
	for want, l := range badRules() {
		for _, r := range l {
			if e := flange.Check(r); e != want {
				t.Error(r, e, want)
			}
		}
	}
}

// torqueCase is a flange of four bolts, a torque, and the error of it.
type torqueCase struct {
	rules  api.FlangeRules
	torque int
	want   api.Errno
}

// torqueCases returns torques with and without an error, with each limit reached and passed by one.
func torqueCases() []torqueCase {
	l := []torqueCase{
		{example(), 0, api.OK}, {example(), 66800000, api.OK}, {example(heavy()), 10000000000000, api.OK}, {example(heavy()), 10000000000001, api.ErrRange},
		// The greatest force of it decides.
		{example(plain()), 100000000, api.OK}, {example(plain()), 100000001, api.ErrRange}, {example(halved()), 100000000, api.OK}, {example(halved()), 100000001, api.ErrRange}, {example(plain()), 10000000000000, api.ErrRange},
		// 100000000 * 3340 / 1000 = 334000000000, with 3339 more for as great a force.
		{example(), 334000003339, api.OK}, {example(), 334000003340, api.ErrRange},
	}
	for _, torque := range outside(0, 10000000000000) {
		l = append(l, torqueCase{example(), torque, api.ErrRange}, torqueCase{example(plain()), torque, api.ErrRange}, torqueCase{example(heavy()), torque, api.ErrRange})
	}
	return l
}

// asked is all that is asked of a flange.
type asked struct {
	forces         []api.Span
	step           api.FlangeStep
	plan           []api.FlangeStep
	order          []int
	torque, rounds int
	torques        []int
}

// usual returns what a flange of so many bolts can be asked.
func usual(count int) asked {
	return asked{forces: make([]api.Span, count), step: api.FlangeStep{Bolt: 1, Torque: 5000000}, plan: plan(5000000, 0, 1, 2), order: upTo(count), torque: 7000000, rounds: 2, torques: []int{0, 5000000}}
}

// wrongAsked returns what no flange can be asked.
func wrongAsked() []asked {
	return []asked{
		{step: api.FlangeStep{Bolt: -1}, plan: []api.FlangeStep{{Bolt: 12}}, torque: -1, torques: []int{-1}},
		{forces: make([]api.Span, 13), step: api.FlangeStep{Bolt: 12, Torque: -1}, plan: make([]api.FlangeStep, 201), order: make([]int, 13), torque: math.MaxInt, rounds: 21, torques: make([]int, 51)},
		{forces: []api.Span{span(1, 0), just(0), just(0)}, step: api.FlangeStep{Torque: math.MinInt}, plan: plan(-1, 0), order: []int{0, 1, 1}, torque: math.MinInt, rounds: -1},
	}
}

// answer is whether all results are zero values, and the error.
type answer struct {
	zero bool
	e    api.Errno
}

func failed(e api.Errno) answer { return answer{zero: true, e: e} }

func listAnswer[T any](l []T, e api.Errno) answer { return answer{zero: l == nil, e: e} }

func nowAnswer(now api.FlangeNow, e api.Errno) answer {
	return answer{zero: now.Forces == nil && now.Most == 0 && now.Lost == nil, e: e}
}

func judgeAnswer(tight, safe bool, e api.Errno) answer { return answer{zero: !tight && !safe, e: e} }

func roundsAnswer(rounds int, e api.Errno) answer { return answer{zero: rounds == 0, e: e} }

func orderAnswer(order []int, rounds int, e api.Errno) answer {
	return answer{zero: order == nil && rounds == 0, e: e}
}

// answers returns what all functions answer.
func answers(r api.FlangeRules, a asked) map[string]answer {
	return map[string]answer{
		"Check":   failed(flange.Check(r)),
		"Tighten": listAnswer(flange.Tighten(r, a.forces, a.step)),
		"Run":     nowAnswer(flange.Run(r, a.plan)),
		"Judge":   judgeAnswer(flange.Judge(r, a.plan)),
		"Rounds":  roundsAnswer(flange.Rounds(r, a.order, a.torque)),
		"Order":   orderAnswer(flange.Order(r, a.torque)),
		"Right":   listAnswer(flange.Right(r, a.order, a.rounds, a.torques)),
		"Retouch": listAnswer(flange.Retouch(r, a.plan, a.torque)),
	}
}

// TestRulesFirst is for P10.1, P1 and R2: the errors of a flange come before all others, and with them the results are zero.
func TestRulesFirst(t *testing.T) {
	for want, l := range badRules() {
		for _, r := range l {
			for _, a := range append(wrongAsked(), usual(3), usual(4), usual(12)) {
				for name, got := range answers(r, a) {
					if got != failed(want) {
						t.Error(name, r, a, got, want)
					}
				}
			}
		}
	}
	for _, r := range goodRules() {
		for name, got := range answers(r, usual(r.Bolts)) {
			if got.e != api.OK && got.e != api.ErrState && !(name == "Order" && r.Bolts > 6 && got.e == api.ErrLong) {
				t.Error(name, r, got)
			}
		}
		for i, a := range wrongAsked() {
			for name, got := range answers(r, a) {
				if name != "Check" && (!got.zero || got.e == api.OK) {
					t.Error(name, r, i, got)
				}
			}
		}
	}
}

// TestTorques is for the errors of a torque, P1 and R2, in all functions that have one.
func TestTorques(t *testing.T) {
	for _, c := range torqueCases() {
		a := usual(4)
		a.step.Torque, a.plan, a.torque, a.torques = c.torque, plan(c.torque, 3), c.torque, []int{0, c.torque}
		for name, got := range answers(c.rules, a) {
			if name == "Check" {
				continue
			}
			if c.want != api.OK && got != failed(c.want) || c.want == api.OK && got.e != api.OK && got.e != api.ErrState {
				t.Error(name, c, got)
			}
		}
	}
}
