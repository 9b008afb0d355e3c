package lot_test

import (
	"testing"

	"acme/api"
	"acme/lot"
)

// checkBound reports what Bound does not return as it should.
func checkBound(t *testing.T, size int, seen api.LotPlan, risk api.Ratio, want int) {
	t.Helper()
	if got, e := lot.Bound(size, seen, risk); got != want || e != api.OK {
		t.Error(size, seen, risk, got, e, want)
	}
}

// TestBoundExample is for P11.10: the chapter's example 6, and others that are worked out by hand.
func TestBoundExample(t *testing.T) {
	checkBound(t, 20, plan(5, 0), ratio(1, 10), 6)
	// A chance that is as great as the risk is enough: 2002 / 15504 = 1001 / 7752, and 1287 / 15504 = 429 / 5168.
	checkBound(t, 20, plan(5, 0), ratio(1001, 7752), 6)
	checkBound(t, 20, plan(5, 0), ratio(1002, 7752), 5)
	checkBound(t, 20, plan(5, 0), ratio(429, 5168), 7)
	checkBound(t, 20, plan(5, 0), ratio(430, 5168), 6)
	checkBound(t, 10, plan(2, 0), ratio(7, 15), 3)
	checkBound(t, 10, plan(2, 0), ratio(4667, 10000), 2)
	checkBound(t, 10, plan(2, 1), ratio(14, 15), 3)
	checkBound(t, 10, plan(2, 1), ratio(1, 5), 9)
	checkBound(t, 10, plan(2, 1), ratio(2001, 10000), 8)
	// Without a risk each number is possible, and with the whole risk just those with which the lot passes for sure.
	checkBound(t, 20, plan(5, 0), ratio(0, 1), 20)
	checkBound(t, 20, plan(20, 7), ratio(0, 9), 20)
	checkBound(t, 20, plan(5, 0), ratio(1, 1), 0)
	checkBound(t, 20, plan(5, 3), ratio(9999, 9999), 3)
	checkBound(t, 20, plan(20, 7), ratio(1, 10000), 7)
	checkBound(t, 20, plan(20, 20), ratio(1, 1), 20)
	// No sample says nothing, nor does one that is accepted whatever is seen.
	checkBound(t, 20, plan(0, 0), ratio(1, 1), 20)
	checkBound(t, 20, plan(5, 5), ratio(1, 1), 20)
	// Of 20 pieces 14 are bad, and 6 of 15504 samples have none of them; of 15 it is one.
	checkBound(t, 20, plan(5, 0), ratio(1, 10000), 14)
	checkBound(t, 1, plan(1, 0), ratio(1, 10000), 0)
	checkBound(t, 1, plan(1, 1), ratio(1, 2), 1)
	checkBound(t, 1, plan(0, 0), ratio(1, 2), 1)
	checkBound(t, 50, plan(49, 0), ratio(1, 50), 1)
	checkBound(t, 50, plan(49, 0), ratio(201, 10000), 0)
	checkBound(t, 50, plan(50, 50), ratio(1, 1), 50)
}

// TestBoundSearch is for P11.10: all numbers of bad pieces, with any risks, and with risks that are chances.
func TestBoundSearch(t *testing.T) {
	r := dice()
	between := 0
	for range 5000 {
		size := 1 + r.IntN(50)
		seen := plan(r.IntN(size+1), 0)
		seen.Accept = r.IntN(seen.Sample + 1)
		risk := anyRisk(r)
		if chance := chanceOf(t, size, r.IntN(size+1), seen); chance.Den <= 10000 && r.IntN(2) == 0 {
			risk = chance
		}
		want := 0
		for bad := range size + 1 {
			if notAbove(risk, chanceOf(t, size, bad, seen)) {
				want = bad
			}
		}
		checkBound(t, size, seen, risk, want)
		if seen.Accept < want && want < size {
			between++
		}
	}
	if between < 500 {
		t.Error("few bounds are between", between)
	}
}

// TestBoundErrors is for P11.10's errors and their order, with each limit reached and passed by one.
func TestBoundErrors(t *testing.T) {
	fail := func(size int, seen api.LotPlan, risk api.Ratio, want api.Errno) {
		t.Helper()
		if got := valueAnswer(lot.Bound(size, seen, risk)); got != failed(want) {
			t.Error(size, seen, risk, got, want)
		}
	}
	for _, risk := range append(badRisks(), goodRisks()...) {
		for _, size := range outside(1, 50) {
			fail(size, plan(0, 0), risk, api.ErrRange)
			fail(size, plan(size, 1), risk, api.ErrRange)
			fail(size, plan(1, 2), risk, api.ErrRange)
		}
		for _, size := range []int{1, 2, 20, 49, 50} {
			for _, p := range badPlans(size) {
				fail(size, p, risk, api.ErrArg)
			}
		}
	}
	for _, size := range []int{1, 20, 50} {
		for _, risk := range badRisks() {
			fail(size, plan(0, 0), risk, api.ErrArg)
			fail(size, plan(size, size), risk, api.ErrArg)
		}
		for _, risk := range goodRisks() {
			checkBound(t, size, plan(0, 0), risk, size)
			checkBound(t, size, plan(size, size), risk, size)
		}
	}
}

// TestBoundFollows is for P11.15: Bound does not grow with the risk, and is from Accept to size.
func TestBoundFollows(t *testing.T) {
	for _, size := range []int{1, 7, 50} {
		for sample := range size + 1 {
			for accept := 0; accept <= sample; accept += 1 + sample/7 {
				before := size
				for num := 0; num <= 10000; num += 50 {
					bad, e := lot.Bound(size, plan(sample, accept), ratio(num, 10000))
					if e != api.OK || bad > before || bad < accept {
						t.Error(size, sample, accept, num, bad, e, before)
					}
					before = bad
				}
			}
		}
	}
}
