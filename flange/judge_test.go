package flange_test

import (
	"testing"

	"acme/api"
	"acme/flange"
)

// checkJudge reports what Judge does not return as it should.
func checkJudge(t *testing.T, r api.FlangeRules, steps []api.FlangeStep, wantTight, wantSafe bool) {
	t.Helper()
	if tight, safe, e := flange.Judge(r, steps); tight != wantTight || safe != wantSafe || e != api.OK {
		t.Error(r, steps, tight, safe, e, wantTight, wantSafe)
	}
}

// TestJudgeExamples is for P10.4: the chapter's examples 2 and 4, and DOC.md's example 8.
func TestJudgeExamples(t *testing.T) {
	checkJudge(t, example(), plan(66800000, 0, 1, 2, 3), false, true)
	checkJudge(t, example(), plan(100200000, 0, 1, 2, 3), false, true)
	checkJudge(t, example(), plan(100200000, 0), false, true)
	checkJudge(t, example(), plan(100300001, 0), false, false)
	checkJudge(t, example(), plan(100300001, 0, 1, 2, 3), false, false)
	checkJudge(t, example(need(17000), shares(0, 0)), plan(66800000, 0, 1, 2, 3), true, true)
}

// TestJudgeTight is for P10.4: each bolt surely has the force that it needs. After example 2 the bolt 0 has 7350 to 11325.
func TestJudgeTight(t *testing.T) {
	checkJudge(t, example(need(7350)), plan(66800000, 0, 1, 2, 3), true, true)
	checkJudge(t, example(need(7351)), plan(66800000, 0, 1, 2, 3), false, true)
	checkJudge(t, example(need(0)), plan(66800000, 0, 1, 2, 3), true, true)
	checkJudge(t, example(need(1)), plan(66800000, 0, 1, 2), false, true)
	checkJudge(t, example(need(0)), plan(66800000, 0, 1, 2), true, true)
	// Wherever the bolt with the smallest force stands.
	for number := range 4 {
		order := []int{number, (number + 1) % 4, (number + 2) % 4, (number + 3) % 4}
		checkJudge(t, example(need(7350)), plan(66800000, order...), true, true)
		checkJudge(t, example(need(7351)), plan(66800000, order...), false, true)
		checkJudge(t, example(need(1)), plan(66800000, order[:3]...), false, true)
	}
	// What is said to be after the whole plan: bolts 1 and 2 loosen the bolt 0 again.
	checkJudge(t, example(plain(), around(3, 0), need(1000)), plan(1000, 0, 1, 2), true, true)
	checkJudge(t, example(plain(), around(3, 1), need(1000)), plan(1000, 0, 1, 2), false, true)
	checkJudge(t, example(plain(), around(3, 0), need(100000000)), plan(100000000, 0, 1, 2), true, true)
	checkJudge(t, example(plain(), around(3, 0), need(100000000)), append(plan(100000000, 0, 1), plan(99999999, 2)...), false, true)
}

// TestJudgeSafe is for P10.4: Most is at most the least yield.
func TestJudgeSafe(t *testing.T) {
	for _, c := range []struct {
		yield api.Span
		steps []api.FlangeStep
		safe  bool
	}{
		{just(1000), plan(1000, 0), true}, {just(999), plan(1000, 0), false}, {span(999, 100000000), plan(1000, 0), false}, {span(1000, 100000000), plan(1000, 0), true},
		{just(1000), plan(1001, 0), false}, {just(1), plan(1, 0, 1, 2), true}, {just(1), plan(2, 0, 1, 2), false}, {just(1), plan(0, 0, 1, 2), true}, {just(1), nil, true},
		// One step decides, whatever comes later.
		{just(1000), append(plan(1001, 0), plan(900, 1, 2)...), false}, {just(1000), append(plan(900, 0, 1), plan(1001, 2)...), false}, {just(1000), append(plan(1000, 0, 1), plan(1000, 2)...), true},
	} {
		checkJudge(t, example(plain(), around(3, 500), need(5000), yields(c.yield)), c.steps, false, c.safe)
		checkJudge(t, example(plain(), around(3, 500), need(0), yields(c.yield)), c.steps, true, c.safe)
		// What is possible counts.
		checkJudge(t, example(halved(), around(3, 500), need(0), yields(c.yield)), c.steps, true, c.safe)
	}
}

// TestJudgeNothing is for P10.4: a plan without steps.
func TestJudgeNothing(t *testing.T) {
	for _, r := range goodRules() {
		checkJudge(t, r, nil, r.Need == 0, true)
		checkJudge(t, r, plan(0, 0), r.Need == 0, true)
	}
}

// TestJudgeSteps is for P10.4: what Tighten says of all steps.
func TestJudgeSteps(t *testing.T) {
	r := dice()
	found := map[[2]bool]int{}
	for range 2000 {
		rules := anyRules(r, 12)
		steps := anyPlan(r, rules, 40)
		now := followed(t, rules, steps...)
		force := now.Forces[r.IntN(rules.Bolts)]
		rules.Need, rules.Kind.Yield = max(force.Low-r.IntN(2), 0), span(max(now.Most-r.IntN(2), 1), api.MaxBoltForce)
		tight := true
		for _, s := range now.Forces {
			tight = tight && s.Low >= rules.Need
		}
		safe := now.Most <= rules.Kind.Yield.Low
		checkJudge(t, rules, steps, tight, safe)
		found[[2]bool{tight, safe}]++
	}
	if len(found) < 4 || found[[2]bool{true, true}] < 100 || found[[2]bool{false, false}] < 100 {
		t.Error("few are tight and safe, or not", found)
	}
}
