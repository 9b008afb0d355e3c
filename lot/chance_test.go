package lot_test

import (
	"math/big"
	"math/bits"
	"testing"

	"acme/api"
	"acme/lot"
)

// checkChance reports what Chance does not return as it should.
func checkChance(t *testing.T, size, bad int, p api.LotPlan, num, den int) {
	t.Helper()
	if got, e := lot.Chance(size, bad, p); got != ratio(num, den) || e != api.OK {
		t.Error(size, bad, p, got, e, num, den)
	}
}

// TestChanceExample is for P11.8: the chapter's examples 5 and 6, and others that are worked out by hand.
func TestChanceExample(t *testing.T) {
	checkChance(t, 10, 3, plan(2, 0), 7, 15)
	checkChance(t, 10, 3, plan(2, 1), 14, 15)
	checkChance(t, 10, 3, plan(2, 2), 1, 1)
	checkChance(t, 20, 6, plan(10, 1), 91, 1292)
	checkChance(t, 20, 6, plan(5, 0), 2002/2, 15504/2)
	checkChance(t, 20, 7, plan(5, 0), 1287/3, 15504/3)
	// No sample, the whole lot, no bad piece, just bad pieces.
	checkChance(t, 10, 10, plan(0, 0), 1, 1)
	checkChance(t, 10, 4, plan(10, 4), 1, 1)
	checkChance(t, 10, 4, plan(10, 3), 0, 1)
	checkChance(t, 10, 0, plan(7, 0), 1, 1)
	checkChance(t, 10, 10, plan(1, 0), 0, 1)
	checkChance(t, 10, 10, plan(7, 6), 0, 1)
	checkChance(t, 10, 10, plan(7, 7), 1, 1)
	checkChance(t, 1, 0, plan(1, 0), 1, 1)
	checkChance(t, 1, 1, plan(1, 0), 0, 1)
	checkChance(t, 1, 1, plan(0, 0), 1, 1)
	// A sample that must have bad pieces.
	checkChance(t, 5, 3, plan(3, 0), 0, 1)
	checkChance(t, 5, 3, plan(3, 1), 3, 10)
	checkChance(t, 5, 3, plan(3, 2), 9, 10)
	checkChance(t, 50, 1, plan(25, 0), 1, 2)
	checkChance(t, 50, 25, plan(25, 0), 1, 126410606437752)
	checkChance(t, 50, 25, plan(25, 24), 126410606437751, 126410606437752)
	checkChance(t, 50, 50, plan(50, 49), 0, 1)
}

// TestChanceSearch is for P11.8: all samples of small lots.
func TestChanceSearch(t *testing.T) {
	for size := 1; size <= 9; size++ {
		for bad := range size + 1 {
			for sample := range size + 1 {
				found, all := make([]int, sample+1), 0
				for pieces := range uint(1) << size {
					if bits.OnesCount(pieces) == sample {
						found[bits.OnesCount(pieces>>(size-bad))]++
						all++
					}
				}
				passed := 0
				for accept, n := range found {
					passed += n
					num, den := lowest(passed, all)
					checkChance(t, size, bad, plan(sample, accept), num, den)
				}
			}
		}
	}
}

// lowest returns a ratio in lowest terms, by looking at all divisors.
func lowest(num, den int) (int, int) {
	for divisor := den; divisor > 1; divisor-- {
		if num%divisor == 0 && den%divisor == 0 {
			return num / divisor, den / divisor
		}
	}
	return num, den
}

// TestChanceWide is for P11.8: lots of all sizes, computed with numbers of any length.
func TestChanceWide(t *testing.T) {
	ways := func(from, taken int) *big.Int { return new(big.Int).Binomial(int64(from), int64(taken)) }
	for size := 1; size <= 50; size++ {
		for _, bad := range []int{0, 1, size / 3, size / 2, size - 1, size} {
			for _, sample := range []int{0, 1, size / 4, size / 2, size - 1, size} {
				passed := new(big.Int)
				for accept := range sample + 1 {
					if sample-accept <= size-bad && accept <= bad {
						passed.Add(passed, new(big.Int).Mul(ways(bad, accept), ways(size-bad, sample-accept)))
					}
					want := new(big.Rat).SetFrac(passed, ways(size, sample))
					checkChance(t, size, bad, plan(sample, accept), int(want.Num().Int64()), int(want.Denom().Int64()))
				}
			}
		}
	}
}

// badPlans returns plans that are not valid for a lot.
func badPlans(size int) []api.LotPlan {
	var l []api.LotPlan
	for _, n := range outside(0, size) {
		l = append(l, plan(n, 0), plan(n, n), plan(n, size), plan(size, n), plan(size/2, n))
	}
	return append(l, plan(0, 1), plan(size/2, size/2+1), plan(size-1, size))
}

// TestChanceErrors is for P11.8's errors and their order, with each limit reached and passed by one.
func TestChanceErrors(t *testing.T) {
	fail := func(size, bad int, p api.LotPlan, want api.Errno) {
		t.Helper()
		if got := valueAnswer(lot.Chance(size, bad, p)); got != failed(want) {
			t.Error(size, bad, p, got, want)
		}
	}
	for _, size := range outside(1, 50) {
		for _, bad := range append(outside(0, 50), 0, 1, 50) {
			fail(size, bad, plan(0, 0), api.ErrRange)
			fail(size, bad, plan(1, 1), api.ErrRange)
			fail(size, bad, plan(-1, 0), api.ErrRange)
			fail(size, bad, plan(0, 1), api.ErrRange)
			fail(size, bad, plan(size, bad), api.ErrRange)
		}
	}
	for _, size := range []int{1, 2, 20, 49, 50} {
		for _, bad := range outside(0, size) {
			fail(size, bad, plan(1, 0), api.ErrRange)
			fail(size, bad, plan(size+1, -1), api.ErrRange)
		}
		for _, p := range badPlans(size) {
			for _, bad := range []int{0, 1, size} {
				fail(size, bad, p, api.ErrArg)
			}
		}
	}
}

// TestChanceFollows is for P11.14: more bad pieces, a greater Accept, bad pieces that are accepted, and all of it together.
func TestChanceFollows(t *testing.T) {
	for _, size := range []int{1, 2, 3, 7, 12, 20} {
		for sample := range size + 1 {
			for accept := range sample + 1 {
				before := ratio(1, 1)
				for bad := range size + 1 {
					chance := chanceOf(t, size, bad, plan(sample, accept))
					if !notAbove(chance, before) || bad <= accept && chance != ratio(1, 1) || accept == sample && chance != ratio(1, 1) {
						t.Error(size, bad, sample, accept, chance, before)
					}
					if accept > 0 && !notAbove(chanceOf(t, size, bad, plan(sample, accept-1)), chance) {
						t.Error(size, bad, sample, accept, chance)
					}
					before = chance
				}
			}
		}
	}
}

// TestChanceWhole is for P11.14: all numbers of bad pieces in a sample together have the chance 1; they are those of the good pieces, from the other end.
func TestChanceWhole(t *testing.T) {
	rat := func(chance api.Ratio) *big.Rat { return big.NewRat(int64(chance.Num), int64(chance.Den)) }
	for _, size := range []int{5, 20, 49, 50} {
		for bad := range size + 1 {
			for sample := 1; sample <= size; sample += 3 {
				for accept := range sample {
					bads, goods := rat(chanceOf(t, size, bad, plan(sample, accept))), rat(chanceOf(t, size, size-bad, plan(sample, sample-accept-1)))
					if bads.Add(bads, goods).Cmp(big.NewRat(1, 1)) != 0 {
						t.Error(size, bad, sample, accept, bads)
					}
				}
				checkChance(t, size, bad, plan(sample, sample), 1, 1)
			}
		}
	}
}
