package lot_test

import (
	"math/rand/v2"
	"slices"
	"testing"

	"acme/api"
	"acme/lot"
)

// checkCounts reports what Counts does not return as it should; ErrState is wanted without spans.
func checkCounts(t *testing.T, g api.LotGauges, pieces int, went []int, want ...api.Span) {
	t.Helper()
	e := api.OK
	if len(want) == 0 {
		e = api.ErrState
	}
	if got, f := lot.Counts(g, pieces, went); !slices.Equal(got, want) || f != e {
		t.Error(g, pieces, went, got, f, want, e)
	}
}

// TestCountsExample is for P11.7: the chapter's example 4, and others that are worked out by hand.
func TestCountsExample(t *testing.T) {
	checkCounts(t, example(), 10, []int{6, 2, 5}, just(4), just(4), just(2))
	checkCounts(t, example(), 10, []int{6, 2, 2}, just(4), just(4), just(2))
	checkCounts(t, example(), 10, []int{6, 2, 6}, just(4), just(4), just(2))
	checkCounts(t, example(), 10, []int{6, 2, 1})
	checkCounts(t, example(), 10, []int{6, 2, 7})
	checkCounts(t, example(), 10, []int{1, 2, 2})
	checkCounts(t, example(), 0, []int{0, 0, 0}, just(0), just(0), just(0))
	checkCounts(t, example(), 0, []int{0, 0, 1})
	checkCounts(t, kinds("n"), 16, []int{0}, just(16))
	checkCounts(t, kinds("n"), 16, []int{1})
	checkCounts(t, kinds("y"), 16, []int{16}, just(16))
	checkCounts(t, kinds("y"), 16, []int{15})
	checkCounts(t, kinds("y"), 16, []int{17})
	for went := range 4 {
		checkCounts(t, kinds("e"), 3, []int{went}, just(3))
		// Alike kinds can be exchanged.
		checkCounts(t, kinds("e,e"), 3, []int{went}, span(0, 3), span(0, 3))
		checkCounts(t, kinds("n,y"), 3, []int{went}, just(3-went), just(went))
		checkCounts(t, kinds("n,n,y"), 3, []int{went}, span(0, 3-went), span(0, 3-went), just(went))
		checkCounts(t, kinds("n,e"), 3, []int{went}, span(0, 3-went), span(went, 3))
		checkCounts(t, kinds("y,e"), 3, []int{went}, span(0, went), span(3-went, 3))
		checkCounts(t, kinds("y,e,n"), 3, []int{went}, span(0, went), span(0, 3), span(0, 3-went))
	}
	// Each gauge says something, and all of them hold together.
	checkCounts(t, kinds("ny,yn,nn"), 5, []int{2, 1}, just(1), just(2), just(2))
	checkCounts(t, kinds("ny,yn,nn"), 5, []int{2, 4})
	checkCounts(t, kinds("ne,en,yy"), 5, []int{1, 1}, span(0, 4), span(0, 4), span(0, 1))
	checkCounts(t, kinds("ne,en,yy"), 5, []int{5, 4}, just(0), just(1), just(4))
	checkCounts(t, kinds("ne,en,yy"), 5, []int{5, 5}, just(0), just(0), just(5))
	checkCounts(t, kinds("nye,eny,yen"), 6, []int{2, 2, 2}, just(2), just(2), just(2))
	checkCounts(t, kinds("nye,eny,yen"), 5, []int{2, 2, 2}, span(1, 2), span(1, 2), span(1, 2))
}

// TestCountsMost is for P11.7: as many kinds, gauges and pieces as there may be.
func TestCountsMost(t *testing.T) {
	any8 := slices.Repeat([]api.Span{span(0, 16)}, 8)
	checkCounts(t, kinds("e,e,e,e,e,e,e,e"), 16, []int{7}, any8...)
	checkCounts(t, kinds("n,n,n,n,n,n,n,n"), 16, []int{0}, any8...)
	checkCounts(t, eachAlone(8, 10), 16, []int{1, 2, 3, 1, 2, 3, 1, 3, 0, 0}, just(1), just(2), just(3), just(1), just(2), just(3), just(1), just(3))
	checkCounts(t, eachAlone(8, 10), 16, []int{1, 2, 3, 1, 2, 3, 1, 3, 0, 1})
	checkCounts(t, eachAlone(8, 10), 16, []int{1, 2, 3, 1, 2, 3, 1, 4, 0, 0})
	checkCounts(t, eachAlone(8, 6), 16, []int{1, 2, 3, 1, 2, 3}, just(1), just(2), just(3), just(1), just(2), just(3), span(0, 4), span(0, 4))
	checkCounts(t, halving(), 16, []int{8, 8, 8}, slices.Repeat([]api.Span{span(0, 8)}, 8)...)
	checkCounts(t, halving(), 16, []int{16, 16, 16}, append(slices.Repeat([]api.Span{just(0)}, 7), just(16))...)
	checkCounts(t, halving(), 16, []int{1, 16, 15}, just(0), just(0), span(0, 1), span(14, 15), just(0), just(0), span(0, 1), span(0, 1))
}

// lists returns all lists of so many numbers from 0 on, together a sum.
func lists(count, sum int) [][]int {
	if count == 0 {
		if sum == 0 {
			return [][]int{nil}
		}
		return nil
	}
	var all [][]int
	for first := range sum + 1 {
		for _, rest := range lists(count-1, sum-first) {
			all = append(all, append([]int{first}, rest...))
		}
	}
	return all
}

// isMadeOf reports whether of so many pieces of each kind as many can go as went.
func isMadeOf(g api.LotGauges, counts, went []int) bool {
	for gauge := range went {
		low, high := 0, 0
		for kind, count := range counts {
			if !can(g[kind][gauge], false) {
				low += count
			}
			if can(g[kind][gauge], true) {
				high += count
			}
		}
		if went[gauge] < low || went[gauge] > high {
			return false
		}
	}
	return true
}

// spansOf returns what Counts must, by looking at all numbers.
func spansOf(g api.LotGauges, pieces int, went []int) []api.Span {
	var spans []api.Span
	for _, counts := range lists(len(g), pieces) {
		if !isMadeOf(g, counts, went) {
			continue
		}
		for kind, count := range counts {
			if len(spans) <= kind {
				spans = append(spans, just(count))
			}
			spans[kind] = span(min(spans[kind].Low, count), max(spans[kind].High, count))
		}
	}
	return spans
}

// truly returns a lot of so many pieces that was truly made of kinds: how many there are of each, and how many went on each gauge, where each either was said piece by piece.
func truly(r *rand.Rand, g api.LotGauges, pieces int) (counts, went []int) {
	counts, went = make([]int, len(g)), make([]int, len(g[0]))
	few := 1 + r.IntN(len(g))
	for range pieces {
		kind := r.IntN(few)
		counts[kind]++
		for gauge := range went {
			goes := r.IntN(2) == 0
			if can(g[kind][gauge], goes) && can(g[kind][gauge], !goes) && goes || !can(g[kind][gauge], false) {
				went[gauge]++
			}
		}
	}
	return counts, went
}

// TestCountsSearch is for P11.7: all numbers of few pieces, for what is true, and what is near to it.
func TestCountsSearch(t *testing.T) {
	r := dice()
	none, exactly, wide := 0, 0, 0
	for range 3000 {
		g, pieces := anyGauges(r, 5, 5), r.IntN(9)
		_, went := truly(r, g, pieces)
		if r.IntN(2) == 0 {
			went[r.IntN(len(went))] += r.IntN(3) - 1
		}
		want := spansOf(g, pieces, went)
		checkCounts(t, g, pieces, went, want...)
		none += min(1, max(0, 1-len(want)))
		for _, s := range want {
			if s.Low == s.High {
				exactly++
			} else if s.Low > 0 {
				wide++
			}
		}
	}
	if none < 300 || exactly < 300 || wide < 100 {
		t.Error("few lots are of all sorts", none, exactly, wide)
	}
}

// TestMadeOf is for P11.13: whatever a lot truly is made of, the numbers lie in Counts.
func TestMadeOf(t *testing.T) {
	r := dice()
	for i := range 1500 {
		mostKinds, mostPieces := 6, 9
		if i%30 == 0 {
			mostKinds, mostPieces = api.MaxLotKinds, api.MaxLotPieces
		}
		g, pieces := anyParted(r, mostKinds, api.MaxLotGauges), r.IntN(mostPieces+1)
		counts, went := truly(r, g, pieces)
		spans, e := lot.Counts(g, pieces, went)
		if e != api.OK || len(spans) != len(g) {
			t.Fatal(g, pieces, counts, went, spans, e)
		}
		for kind, count := range counts {
			if count < spans[kind].Low || count > spans[kind].High {
				t.Error(g, pieces, counts, went, spans)
			}
		}
	}
}

// TestCountsErrors is for P11.7's errors and their order, with each limit reached and passed by one.
func TestCountsErrors(t *testing.T) {
	fail := func(g api.LotGauges, pieces int, want api.Errno, went ...int) {
		t.Helper()
		if got := listAnswer(lot.Counts(g, pieces, went)); got != failed(want) {
			t.Error(g, pieces, went, got, want)
		}
	}
	for _, pieces := range outside(0, 16) {
		fail(example(), pieces, api.ErrRange, 0, 0, 0)
		fail(example(), pieces, api.ErrRange, pieces, pieces, pieces)
		fail(example(), pieces, api.ErrRange)
		fail(kinds("e,e"), pieces, api.ErrRange, 0)
		fail(kinds("e,e"), pieces, api.ErrRange, 0, 0)
	}
	for _, pieces := range []int{0, 16} {
		fail(example(), pieces, api.ErrForm)
		fail(example(), pieces, api.ErrForm, 0, 0)
		fail(example(), pieces, api.ErrForm, 0, 0, 0, 0)
		fail(example(), pieces, api.ErrForm, -1, 17)
		// There is a number for each gauge, not for each kind.
		fail(kinds("nn,yy,ee"), pieces, api.ErrForm, 0, 0, 0)
		fail(kinds("nnn,yyy"), pieces, api.ErrForm, 0, 0)
		fail(example(), pieces, api.ErrForm, make([]int, 5000)...)
		for _, n := range outside(0, pieces) {
			fail(example(), pieces, api.ErrState, n, 0, 0)
			fail(kinds("eee,eee"), pieces, api.ErrState, 0, n, 0)
			fail(kinds("eee,eee"), pieces, api.ErrState, 0, 0, n)
		}
		checkCounts(t, kinds("eee,eee"), pieces, []int{0, pieces, pieces / 2}, span(0, pieces), span(0, pieces))
	}
}
