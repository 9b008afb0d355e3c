package lot_test

import (
	"math"
	"slices"
	"testing"

	"acme/api"
	"acme/lot"
)

// checkTotal reports what Total does not return as it should.
func checkTotal(t *testing.T, g api.LotGauges, want int, counts ...int) {
	t.Helper()
	if got, e := lot.Total(g, counts); got != want || e != api.OK {
		t.Error(g, counts, got, e, want)
	}
}

// TestTotalExample is for P11.6: the chapter's example 3, and others that are worked out by hand.
func TestTotalExample(t *testing.T) {
	checkTotal(t, sure(), 30, 10, 5, 5)
	checkTotal(t, sure(), 32, 1, 5, 20)
	checkTotal(t, sure(), 0, 0, 0, 0)
	checkTotal(t, sure(), 1, 1, 0, 0)
	checkTotal(t, sure(), 1, 0, 0, 1)
	// The kind 1 is never known by one gauging.
	checkTotal(t, sure(), 2, 0, 1, 0)
	checkTotal(t, sure(), 5000000, 1000000, 1000000, 1000000)
	checkTotal(t, kinds("n"), 0, 1000000)
	checkTotal(t, kinds("y"), 0, 0)
	checkTotal(t, kinds("yn,nn"), 7, 3, 4)
	// The least sum can need a deeper tree: the gauges 2 to 4 take one kind away each.
	checkTotal(t, kinds("nnnnn,nynnn,ynnny,yynyn,ynynn"), 100+2*10+3*5+4*(4+1), 4, 1, 5, 10, 100)
	deep := kinds("nnyn,nynn,ynny,yynn")
	checkTotal(t, deep, 8, 1, 1, 1, 1)
	checkTotal(t, deep, 100+2*10+3*5, 100, 0, 10, 5)
}

// TestTotalMost is for P11.6: as many kinds and pieces as there may be.
func TestTotalMost(t *testing.T) {
	all := slices.Repeat([]int{1000000}, 8)
	checkTotal(t, halving(), 24000000, all...)
	checkTotal(t, eachAlone(8, 10), 35000000, all...)
	checkTotal(t, eachAlone(8, 7), 128+2*64+3*32+4*16+5*8+6*4+7*(2+1), 128, 64, 32, 16, 8, 4, 2, 1)
	// The kind that no gauge lets go is known last.
	checkTotal(t, eachAlone(8, 7), 1*64+2*32+3*16+4*8+5*4+6*2+7*(1+128), 1, 2, 4, 8, 16, 32, 64, 128)
	checkTotal(t, eachAlone(8, 7), 7000000, 0, 0, 0, 0, 0, 0, 0, 1000000)
}

// leastTotal returns the least sum of gaugings of some partings.
func leastTotal(g api.LotGauges, all []*parting, counts []int) int {
	least := math.MaxInt
	for _, p := range all {
		sum := 0
		for kind, count := range counts {
			sum += count * p.tried(g[kind])
		}
		least = min(least, sum)
	}
	return least
}

// TestTotalSearch is for P11.6: all partings of up to five kinds.
func TestTotalSearch(t *testing.T) {
	r := dice()
	deeper, none := 0, 0
	for range 3000 {
		g := surely(anyParted(r, 5, 5))
		counts, all := anyCounts(r, len(g)), partings(g, upTo(len(g)))
		if len(all) == 0 {
			none++
			if got := valueAnswer(lot.Total(g, counts)); got != failed(api.ErrNone) {
				t.Error(g, counts, got)
			}
			continue
		}
		want := leastTotal(g, all, counts)
		checkTotal(t, g, want, counts...)
		depth := leastDepth(all)
		all = slices.DeleteFunc(all, func(p *parting) bool { return p.depth() > depth })
		if leastTotal(g, all, counts) > want {
			deeper++
		}
	}
	if deeper < 50 || none < 50 {
		t.Error("few need a deeper tree, or have none", deeper, none)
	}
}

// TestTotalErrors is for P11.6's errors and their order, with each limit reached and passed by one.
func TestTotalErrors(t *testing.T) {
	fail := func(g api.LotGauges, want api.Errno, counts ...int) {
		t.Helper()
		if got := valueAnswer(lot.Total(g, counts)); got != failed(want) {
			t.Error(g, counts, got, want)
		}
	}
	// Of these, kinds are alike or not, and gauges say either or not.
	all := []api.LotGauges{example(), sure(), kinds("n,n,n"), kinds("e,n,n"), kinds("e,e,e")}
	for _, g := range all {
		fail(g, api.ErrForm)
		fail(g, api.ErrForm, 1, 2)
		fail(g, api.ErrForm, -1)
		fail(g, api.ErrForm, 1, 2, 3, 4)
		fail(g, api.ErrForm, -1, -1, -1, 1000001)
		fail(g, api.ErrForm, make([]int, 5000)...)
		for _, n := range outside(0, 1000000) {
			fail(g, api.ErrArg, n, 0, 0)
			fail(g, api.ErrArg, 0, n, 0)
			fail(g, api.ErrArg, 0, 0, n)
			fail(g, api.ErrArg, n, n, n)
		}
	}
	for _, n := range []int{0, 1, 1000000} {
		fail(example(), api.ErrState, n, n, n)
		fail(kinds("e,e,e"), api.ErrState, n, n, n)
		fail(kinds("e"), api.ErrState, n)
		fail(kinds("n,n,n"), api.ErrNone, n, n, n)
		fail(kinds("ny,yn,ny"), api.ErrNone, n, 0, n)
	}
	for kind := range 8 {
		for gauge := range 10 {
			fail(with(eachAlone(8, 10), kind, gauge, api.LotEither), api.ErrState, make([]int, 8)...)
		}
		fail(with(eachAlone(8, 7), kind, 0, api.LotEither), api.ErrState, make([]int, 8)...)
	}
	fail(eachAlone(8, 6), api.ErrNone, make([]int, 8)...)
}
