package lot_test

import (
	"slices"
	"testing"

	"acme/api"
	"acme/lot"
)

// checkAlike reports what Alike does not return as it should.
func checkAlike(t *testing.T, g api.LotGauges, want ...[2]int) {
	t.Helper()
	if got, e := lot.Alike(g); !slices.Equal(got, want) || e != api.OK {
		t.Error(g, got, e, want)
	}
}

// TestAlikeExample is for P11.2: the chapter's example 1, and others that are worked out by hand.
func TestAlikeExample(t *testing.T) {
	checkAlike(t, example())
	checkAlike(t, sure())
	checkAlike(t, halving())
	checkAlike(t, wide())
	checkAlike(t, kinds("n"))
	checkAlike(t, kinds("e"))
	checkAlike(t, kinds("n,n"), [2]int{0, 1})
	checkAlike(t, kinds("n,y"))
	checkAlike(t, kinds("n,e"), [2]int{0, 1})
	checkAlike(t, kinds("e,y"), [2]int{0, 1})
	checkAlike(t, kinds("e,e"), [2]int{0, 1})
	// Either agrees with both, which do not agree.
	checkAlike(t, kinds("n,e,y"), [2]int{0, 1}, [2]int{1, 2})
	checkAlike(t, kinds("ny,ee,yn,nn,ey"), [2]int{0, 1}, [2]int{0, 4}, [2]int{1, 2}, [2]int{1, 3}, [2]int{1, 4})
	// One gauge that parts them is enough, whichever it is.
	checkAlike(t, kinds("eeeeeeeeen,eeeeeeeeey"))
	checkAlike(t, kinds("yeeeeeeeee,neeeeeeeee"))
	checkAlike(t, kinds("ynynynynye,ynynynynyn"), [2]int{0, 1})
	// The smaller number comes first, and pairs are ordered by both.
	checkAlike(t, kinds("n,n,n,n"), [2]int{0, 1}, [2]int{0, 2}, [2]int{0, 3}, [2]int{1, 2}, [2]int{1, 3}, [2]int{2, 3})
	checkAlike(t, kinds("n,y,n,y,n"), [2]int{0, 2}, [2]int{0, 4}, [2]int{1, 3}, [2]int{2, 4})
	checkAlike(t, eachAlone(8, 6), [2]int{6, 7})
	checkAlike(t, eachAlone(8, 7))
}

// alikeByAnswers returns the pairs of kinds for which each gauge has an answer that both can give.
func alikeByAnswers(g api.LotGauges) [][2]int {
	var pairs [][2]int
	for first := range g {
		for second := range g {
			all := first < second
			for gauge := range g[0] {
				some := false
				for _, goes := range []bool{false, true} {
					some = some || can(g[first][gauge], goes) && can(g[second][gauge], goes)
				}
				all = all && some
			}
			if all {
				pairs = append(pairs, [2]int{first, second})
			}
		}
	}
	return pairs
}

// TestAlikeSearch is for P11.2: all answers that two kinds can give.
func TestAlikeSearch(t *testing.T) {
	r := dice()
	found := map[int]int{}
	for range 5000 {
		g := anyGauges(r, 8, 10)
		want := alikeByAnswers(g)
		checkAlike(t, g, want...)
		found[min(len(want), 2)]++
	}
	if found[0] < 500 || found[1] < 100 || found[2] < 500 {
		t.Error("few are alike, or not", found)
	}
}
