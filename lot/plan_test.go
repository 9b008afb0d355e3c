package lot_test

import (
	"testing"

	"acme/api"
	"acme/lot"
)

// checkPlan reports what Plan does not return as it should.
func checkPlan(t *testing.T, size, good, bad int, hard, soft api.Ratio, want api.LotPlan) {
	t.Helper()
	if got, e := lot.Plan(size, good, bad, hard, soft); got != want || e != api.OK {
		t.Error(size, good, bad, hard, soft, got, e, want)
	}
}

// TestPlanExample is for P11.9: the chapter's example 6, and others that are worked out by hand.
func TestPlanExample(t *testing.T) {
	tenth, never, always := ratio(1, 10), ratio(0, 1), ratio(1, 1)
	checkPlan(t, 20, 1, 6, tenth, tenth, plan(10, 1))
	// Without any risk one more than are good must be found for sure.
	checkPlan(t, 20, 1, 6, never, never, plan(16, 1))
	checkPlan(t, 20, 0, 1, never, never, plan(20, 0))
	checkPlan(t, 20, 19, 20, never, never, plan(20, 19))
	checkPlan(t, 50, 49, 50, never, never, plan(50, 49))
	checkPlan(t, 50, 0, 50, never, never, plan(1, 0))
	checkPlan(t, 1, 0, 1, never, never, plan(1, 0))
	// If each bad lot may pass no sample is needed, and if each good one may fail none is accepted.
	checkPlan(t, 20, 1, 6, never, always, plan(0, 0))
	checkPlan(t, 20, 1, 6, always, always, plan(0, 0))
	checkPlan(t, 1, 0, 1, always, always, plan(0, 0))
	checkPlan(t, 20, 1, 6, always, never, plan(15, 0))
	checkPlan(t, 20, 1, 6, always, tenth, plan(6, 0))
	checkPlan(t, 20, 19, 20, always, never, plan(1, 0))
	checkPlan(t, 20, 0, 1, always, never, plan(20, 0))
	// A chance that is as great as the risk is right: of 10 pieces 3 are bad, and 21 of 45 samples of 2 have none of them.
	checkPlan(t, 10, 0, 3, never, ratio(7, 15), plan(2, 0))
	checkPlan(t, 10, 0, 3, never, ratio(700, 1500), plan(2, 0))
	checkPlan(t, 10, 0, 3, never, ratio(4666, 10000), plan(3, 0))
	checkPlan(t, 10, 0, 3, never, ratio(4667, 10000), plan(2, 0))
	// Of 10 pieces one is bad, and 2 of 10 samples of 2 have it.
	checkPlan(t, 10, 1, 3, ratio(1, 5), ratio(7, 15), plan(2, 0))
	checkPlan(t, 10, 1, 3, ratio(2000, 10000), ratio(7, 15), plan(2, 0))
	checkPlan(t, 10, 1, 3, ratio(1999, 10000), ratio(7, 15), plan(6, 1))
}

// bestPlan returns what Plan must, by looking at all plans; it is computed with the chances of Chance.
func bestPlan(t *testing.T, size, good, bad int, hard, soft api.Ratio) api.LotPlan {
	t.Helper()
	for sample := range size + 1 {
		for accept := range sample + 1 {
			p := plan(sample, accept)
			if notAbove(fails(chanceOf(t, size, good, p)), hard) && notAbove(chanceOf(t, size, bad, p), soft) {
				return p
			}
		}
	}
	t.Fatal("no plan does", size, good, bad, hard, soft)
	return api.LotPlan{}
}

// TestPlanSearch is for P11.9: all plans of lots of all sizes, with any risks, and with risks that are chances.
func TestPlanSearch(t *testing.T) {
	r := dice()
	found := map[bool]int{}
	for i := range 1500 {
		size := 1 + r.IntN(50)
		if i%2 == 0 {
			size = 1 + r.IntN(10)
		}
		good := r.IntN(size)
		bad := good + 1 + r.IntN(size-good)
		hard, soft := anyRisk(r), anyRisk(r)
		some := plan(size/2, r.IntN(size/2+1))
		if risk := fails(chanceOf(t, size, good, some)); risk.Den <= 10000 && r.IntN(2) == 0 {
			hard = risk
		}
		if risk := chanceOf(t, size, bad, some); risk.Den <= 10000 && r.IntN(2) == 0 {
			soft = risk
		}
		want := bestPlan(t, size, good, bad, hard, soft)
		checkPlan(t, size, good, bad, hard, soft, want)
		found[want.Accept > 0]++
	}
	if found[false] < 200 || found[true] < 200 {
		t.Error("few plans accept bad pieces, or none", found)
	}
}

// badRisks returns ratios that are no risks.
func badRisks() []api.Ratio {
	l := []api.Ratio{{}, ratio(2, 1), ratio(-1, 1), ratio(10001, 10000), ratio(1, 10001), ratio(0, 0), ratio(0, -1), ratio(-1, -1), ratio(-1, -2), ratio(10001, 10001)}
	for _, n := range outside(1, 10000) {
		l = append(l, ratio(0, n), ratio(1, n), ratio(n, n))
	}
	for _, n := range outside(0, 1) {
		l = append(l, ratio(n, 1))
	}
	return l
}

// goodRisks returns risks, with each limit reached.
func goodRisks() []api.Ratio {
	return []api.Ratio{ratio(0, 1), ratio(1, 1), ratio(0, 10000), ratio(10000, 10000), ratio(1, 10000), ratio(9999, 10000), ratio(2, 4)}
}

// TestPlanErrors is for P11.9's errors and their order, with each limit reached and passed by one.
func TestPlanErrors(t *testing.T) {
	fail := func(size, good, bad int, hard, soft api.Ratio, want api.Errno) {
		t.Helper()
		if got := valueAnswer(lot.Plan(size, good, bad, hard, soft)); got != failed(want) {
			t.Error(size, good, bad, hard, soft, got, want)
		}
	}
	for _, risk := range append(badRisks(), goodRisks()...) {
		for _, size := range outside(1, 50) {
			fail(size, 0, 1, risk, risk, api.ErrRange)
			fail(size, 0, size, risk, risk, api.ErrRange)
			fail(size, 5, 4, risk, risk, api.ErrRange)
		}
		for _, size := range []int{1, 2, 20, 49, 50} {
			for good := range size + 1 {
				fail(size, good, good, risk, risk, api.ErrRange)
				fail(size, good, good-1, risk, risk, api.ErrRange)
				fail(size, good, 0, risk, risk, api.ErrRange)
			}
			for _, n := range outside(0, size) {
				fail(size, n, size, risk, risk, api.ErrRange)
				fail(size, 0, n, risk, risk, api.ErrRange)
				fail(size, n, n, risk, risk, api.ErrRange)
			}
		}
	}
	for _, size := range []int{1, 20, 50} {
		for _, bad := range badRisks() {
			fail(size, 0, 1, bad, bad, api.ErrArg)
			for _, good := range goodRisks() {
				fail(size, 0, size, bad, good, api.ErrArg)
				fail(size, size-1, size, good, bad, api.ErrArg)
			}
		}
		for _, hard := range goodRisks() {
			for _, soft := range goodRisks() {
				checkPlan(t, size, 0, size, hard, soft, bestPlan(t, size, 0, size, hard, soft))
				checkPlan(t, size, size-1, size, hard, soft, bestPlan(t, size, size-1, size, hard, soft))
			}
		}
	}
}

// TestPlanFollows is for P11.15: Plan keeps both risks, for all lots with at most good, and with at least bad, bad pieces; with greater risks Sample is no greater.
func TestPlanFollows(t *testing.T) {
	r := dice()
	for range 700 {
		size := 1 + r.IntN(40)
		good := r.IntN(size)
		bad := good + 1 + r.IntN(size-good)
		hard, soft := anyRisk(r), anyRisk(r)
		p, e := lot.Plan(size, good, bad, hard, soft)
		if e != api.OK {
			t.Fatal(size, good, bad, hard, soft, e)
		}
		for n := range size + 1 {
			chance := chanceOf(t, size, n, p)
			if n <= good && !notAbove(fails(chance), hard) || n >= bad && !notAbove(chance, soft) {
				t.Error(size, good, bad, hard, soft, p, n, chance)
			}
		}
		more := ratio(hard.Num+r.IntN(hard.Den-hard.Num+1), hard.Den)
		softer := ratio(soft.Num+r.IntN(soft.Den-soft.Num+1), soft.Den)
		for _, risks := range [][2]api.Ratio{{more, soft}, {hard, softer}, {more, softer}} {
			if less, e := lot.Plan(size, good, bad, risks[0], risks[1]); e != api.OK || less.Sample > p.Sample {
				t.Error(size, good, bad, hard, soft, p, risks, less, e)
			}
		}
		for sample := range p.Sample {
			for accept := range sample + 1 {
				less := plan(sample, accept)
				if notAbove(fails(chanceOf(t, size, good, less)), hard) && notAbove(chanceOf(t, size, bad, less), soft) {
					t.Error("a smaller sample does", size, good, bad, hard, soft, p, less)
				}
			}
		}
	}
}
