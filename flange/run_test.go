package flange_test

import (
	"reflect"
	"slices"
	"testing"

	"acme/api"
	"acme/flange"
)

// checkRun reports what Run does not return as it should.
func checkRun(t *testing.T, r api.FlangeRules, steps []api.FlangeStep, want api.FlangeNow) {
	t.Helper()
	if got, e := flange.Run(r, steps); !reflect.DeepEqual(got, want) || e != api.OK {
		t.Error(r, steps, got, e, want)
	}
}

// TestRunExamples is for P10.3: the chapter's examples 1 to 3.
func TestRunExamples(t *testing.T) {
	checkRun(t, example(), plan(66800000, 0), api.FlangeNow{
		Forces: []api.Span{span(17350, 20000), just(0), just(0), just(0)}, Most: 20000,
		Lost: []api.Span{just(0), span(3470, 4000), span(1735, 2000), span(3470, 4000)},
	})
	checkRun(t, example(), plan(66800000, 0, 1), api.FlangeNow{
		Forces: []api.Span{span(13350, 16530), span(17350, 20000), just(0), just(0)}, Most: 20000,
		Lost: []api.Span{span(3470, 4000), just(0), span(5205, 6000), span(5205, 6000)},
	})
	checkRun(t, example(), plan(66800000, 0, 1, 2, 3), api.FlangeNow{
		Forces: []api.Span{span(7350, 11325), span(11350, 14795), span(13350, 16530), span(17350, 20000)}, Most: 20000,
		Lost: []api.Span{span(8675, 10000), span(5205, 6000), span(3470, 4000), just(0)},
	})
	checkRun(t, example(), plan(66800000, 0, 2, 1, 3), api.FlangeNow{
		Forces: []api.Span{span(7350, 11325), span(15350, 18265), span(9350, 13060), span(17350, 20000)}, Most: 20000,
		Lost: []api.Span{span(8675, 10000), span(1735, 2000), span(6940, 8000), just(0)},
	})
	// Need and the yield do not count.
	checkRun(t, example(need(7), yields(just(1))), plan(66800000, 3), api.FlangeNow{
		Forces: []api.Span{just(0), just(0), just(0), span(17350, 20000)}, Most: 20000,
		Lost: []api.Span{span(3470, 4000), span(1735, 2000), span(3470, 4000), just(0)},
	})
}

// TestRunNothing is for P10.3: a plan without steps, and one whose steps do nothing.
func TestRunNothing(t *testing.T) {
	for _, r := range goodRules() {
		nothing := api.FlangeNow{Forces: make([]api.Span, r.Bolts), Lost: make([]api.Span, r.Bolts)}
		checkRun(t, r, nil, nothing)
		checkRun(t, r, []api.FlangeStep{}, nothing)
		checkRun(t, r, plan(0, upTo(r.Bolts)...), nothing)
	}
}

// TestRunLost is for P10.3: what was lost since the last step on a bolt, or from the beginning.
func TestRunLost(t *testing.T) {
	check := func(r api.FlangeRules, steps []api.FlangeStep, most int, forces, lost []api.Span) {
		t.Helper()
		checkRun(t, r, steps, api.FlangeNow{Forces: forces, Most: most, Lost: lost})
	}
	r := example(plain(), around(3, 100))
	check(r, plan(1000, 0), 1000, spans(1000, 0, 0), spans(0, 100, 100))
	check(r, plan(1000, 0, 1), 1000, spans(900, 1000, 0), spans(100, 0, 200))
	check(r, plan(1000, 0, 1, 2), 1000, spans(800, 900, 1000), spans(200, 100, 0))
	check(r, plan(1000, 0, 1, 2, 0), 1000, spans(1000, 880, 980), spans(0, 120, 20))
	// A step on a bolt makes it 0, even if nothing happens.
	check(r, append(plan(1000, 0, 1), plan(800, 0)...), 1000, spans(900, 1000, 0), spans(0, 0, 200))
	check(r, append(plan(1000, 0, 1), plan(0, 2)...), 1000, spans(900, 1000, 0), spans(100, 0, 0))
	check(r, plan(1000, 0, 0, 0), 1000, spans(1000, 0, 0), spans(0, 100, 100))
	// Whether or not a force falls to 0.
	check(r, append(plan(50, 1), plan(1000, 0)...), 1000, spans(1000, 0, 0), spans(0, 100, 105))
	check(r, append(plan(50, 1), plan(100000, 0, 2)...), 100000, spans(90000, 0, 100000), spans(10000, 20000, 0))
	// Each loss is rounded by itself.
	check(example(plain(), around(3, 1)), plan(1500, 0, 1), 1500, []api.Span{span(1498, 1499), just(1500), just(0)}, []api.Span{span(1, 2), just(0), span(2, 4)})
	check(example(plain(), around(3, 1)), []api.FlangeStep{{Bolt: 0, Torque: 1}, {Bolt: 0, Torque: 2}, {Bolt: 0, Torque: 3}}, 3, spans(3, 0, 0), []api.Span{just(0), span(0, 3), span(0, 3)})
	// A gain can be 0, or not.
	check(example(halved(), around(3, 100)), plan(1000, 0, 0), 1000, []api.Span{span(500, 1000), just(0), just(0)}, []api.Span{just(0), span(50, 150), span(50, 150)})
}

// TestRunMost is for P10.3: the greatest force after any step, of any bolt.
func TestRunMost(t *testing.T) {
	for _, c := range []struct {
		r     api.FlangeRules
		steps []api.FlangeStep
		most  int
	}{
		{example(plain(), around(3, 500)), plan(1000, 0, 1, 2), 1000},
		{example(plain(), around(3, 500)), append(plan(1000, 0), plan(900, 1, 2)...), 1000},
		{example(plain(), around(3, 500)), append(plan(900, 0), plan(1000, 1, 2)...), 1000},
		{example(plain(), around(3, 500)), slices.Concat(plan(900, 0), plan(1000, 1), plan(800, 2)), 1000},
		{example(plain(), around(3, 500)), append(plan(7, 0), plan(0, 1, 2)...), 7},
		{example(halved(), around(3, 500)), plan(1000, 0, 1, 2), 1000},
		{example(halved(), around(3, 500)), append(plan(1000, 0), plan(1999, 0)...), 1999},
		{example(halved(), around(3, 500)), append(plan(1000, 0), plan(999, 0)...), 1000},
	} {
		if got, e := flange.Run(c.r, c.steps); got.Most != c.most || e != api.OK {
			t.Error(c, got, e)
		}
	}
}

// TestRunSteps is for P10.3: each step of a plan is one of Tighten's; what is lost and what is most follows.
func TestRunSteps(t *testing.T) {
	r := dice()
	for range 500 {
		rules := anyRules(r, 12)
		steps := anyPlan(r, rules, 60)
		checkRun(t, rules, steps, followed(t, rules, steps...))
	}
}

// TestPlanLimits is for the errors of a plan: as many steps as there may be, with the greatest torques.
func TestPlanLimits(t *testing.T) {
	for _, count := range []int{3, 12} {
		var numbers []int
		for i := range 200 {
			numbers = append(numbers, i%count)
		}
		for _, rules := range []api.FlangeRules{example(plain(), even(count, 500)), example(halved(), even(count, 499))} {
			steps := plan(100000000, numbers...)
			checkRun(t, rules, steps, followed(t, rules, steps...))
		}
	}
	// One bolt loses half of all that others gain, and is not tightened.
	r := example(plain(), even(12, 500))
	var steps []api.FlangeStep
	for i := range 200 {
		steps = append(steps, api.FlangeStep{Bolt: 1 + i%11, Torque: 100000000})
	}
	lost := followed(t, r, steps...).Lost[0]
	if got, e := flange.Run(r, steps); got.Lost[0] != lost || lost.Low < 2000000000 || e != api.OK {
		t.Error(got, e, lost)
	}
}

// badPlans returns plans for four bolts of the kind of the examples, by their error.
func badPlans() map[api.Errno][][]api.FlangeStep {
	good := slices.Repeat(plan(66800000, 0, 1, 2, 3), 50)
	long := [][]api.FlangeStep{append(slices.Clone(good), good[0]), make([]api.FlangeStep, 201), make([]api.FlangeStep, 5000), plan(-1, make([]int, 201)...), plan(5, slices.Repeat([]int{4}, 201)...)}
	var none, far [][]api.FlangeStep
	for _, number := range outside(0, 3) {
		for _, torque := range []int{0, 66800000, -1, 334000003340} {
			none = append(none, plan(torque, number), append(plan(66800000, 0, 1), plan(torque, number)...))
		}
		// The first step with an error decides.
		none = append(none, append(plan(5, number), plan(-1, 0)...))
		far = append(far, append(plan(-1, 0), plan(5, number)...))
	}
	for _, torque := range append(outside(0, 10000000000000), 334000003340) {
		for number := range 4 {
			far = append(far, plan(torque, number))
		}
	}
	for place := range 200 {
		lost, strong := slices.Clone(good), slices.Clone(good)
		lost[place].Bolt, strong[place].Torque = 4, 334000003340
		none, far = append(none, lost), append(far, strong)
	}
	return map[api.Errno][][]api.FlangeStep{api.ErrLong: long, api.ErrNone: none, api.ErrRange: far}
}

// TestPlanErrors is for the errors of a plan and their order, in all functions that have one (P10.3, P10.4, P10.8).
func TestPlanErrors(t *testing.T) {
	for want, plans := range badPlans() {
		for _, steps := range plans {
			got := []answer{nowAnswer(flange.Run(example(), steps)), judgeAnswer(flange.Judge(example(), steps)), listAnswer(flange.Retouch(example(), steps, 66800000)), listAnswer(flange.Retouch(example(need(0)), steps, 0))}
			for _, torque := range outside(0, 10000000000000) {
				got = append(got, listAnswer(flange.Retouch(example(), steps, torque)))
			}
			for i, a := range got {
				if a != failed(want) {
					t.Error(i, steps, a, want)
				}
			}
		}
	}
	good := slices.Repeat(plan(66800000, 0, 1, 2, 3), 50)
	_, e := flange.Run(example(), good)
	_, _, f := flange.Judge(example(), good)
	if _, g := flange.Retouch(example(need(0)), good, 66800000); e != api.OK || f != api.OK || g != api.OK {
		t.Error(e, f, g)
	}
}
