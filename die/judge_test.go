package die_test

import (
	"math/rand/v2"
	"slices"
	"testing"

	"acme/api"
	"acme/die"
)

// checkJudge reports what Judge does not return as it should, of a job and of that job turned round.
func checkJudge(t *testing.T, j job, l []api.DieSetting, want int) {
	t.Helper()
	if got, e := die.Judge(j.tool, j.orders, l); got != want || e != api.OK {
		t.Error(j, l, got, e, want)
	}
	k := turnedRound(j)
	if got, e := die.Judge(k.tool, k.orders, turnedPlan(l)); got != want || e != api.OK {
		t.Error(k, turnedPlan(l), got, e, want)
	}
}

// TestJudgeExample is for P7.7: the chapter's example 4, and further ones.
func TestJudgeExample(t *testing.T) {
	for _, c := range []struct {
		want int
		l    []api.DieSetting
	}{
		{226, plan(0, 102000)}, {0, plan(0, 101499)}, {0, plan(5, 102000)}, {0, nil}, {0, plan(1, 101500)}, {0, plan(299, 101500)}, {231, plan(0, 101500)}, {0, plan(0, 108501)}, {1, plan(0, 108500)}, {1, plan(0, 108481)}, {2, plan(0, 108480)},
		{300, plan(0, 101500, 231, 101500)}, {300, plan(0, 101500, 231, 101700)}, {299, plan(0, 101500, 231, 101701)}, {231, plan(0, 101500, 231, 101499)}, {231, plan(0, 101500, 231, 108501)}, {232, plan(0, 101500, 231, 108500)},
		{300, plan(0, 101500, 230, 101500)}, {299, plan(0, 101500, 228, 101500)}, {231, plan(0, 101500, 232, 101500)}, {10, plan(0, 101500, 10, 0)}, {10, plan(0, 101500, 10, 101499, 20, 101500)}, {300, plan(0, 108500, 1, 101500, 200, 101500, 271, 101500)},
		{1, plan(0, 108500, 2, 101500)}, {0, plan(0, -10000000000)}, {0, plan(0, 20000000000)}, {299, plan(0, 101500, 231, 101500, 299, 20000000000)}, {299, plan(0, 101500, 231, 101500, 299, -10000000000)},
		{231, plan(0, 101500, 232, 0, 233, 0)}, {300, everyPiece(300, 101500)}, {300, everyPiece(300, 108500)}, {0, everyPiece(300, 108501)},
	} {
		checkJudge(t, example(), c.l, c.want)
	}
	// The zone rises, so the size is too small at a later piece; of a tap it falls.
	steps := rising(wears(just(10)), orders(2, 0, 100, 200, 3, 0, 150, 300))
	checkJudge(t, steps, plan(0, 100), 2)
	checkJudge(t, steps, plan(0, 130), 5)
	checkJudge(t, steps, plan(0, 129), 2)
	down(&steps)
	checkJudge(t, steps, plan(0, 190), 5)
	checkJudge(t, steps, plan(0, 189), 4)
	checkJudge(t, steps, plan(0, 179), 3)
	checkJudge(t, steps, plan(0, 169), 2)
	checkJudge(t, steps, plan(0, 99), 0)
}

// TestJudgeHours is for P7.7: the document's example 9.
func TestJudgeHours(t *testing.T) {
	hours := orders(52, 0, 100000, 104000)
	checkJudge(t, example(hours), plan(0, 101500), 51)
	checkJudge(t, example(hours), plan(0, 101480), 0)
	checkJudge(t, example(orders(51, 0, 100000, 104000)), plan(0, 101500), 51)
}

// TestJudgeErrors is for P7.7's errors, and for as many settings as there may be.
func TestJudgeErrors(t *testing.T) {
	wrong := [][]api.DieSetting{plan(3, 0, 3, 0), plan(3, 0, 2, 0), plan(0, 101500, 0, 101500), plan(0, 101500, 299, 0, 5, 0), everyPiece(301, 101500), append(everyPiece(299, 101500), plan(297, 0)...)}
	for _, n := range outside(0, 299) {
		wrong = append(wrong, plan(n, 101500), plan(0, 101500, n, 101500), plan(0, 0, 1, 0, n, 0), plan(n, 0, 5, 0), plan(5, 0, n, 0))
	}
	for _, n := range outside(-10000000000, 20000000000) {
		wrong = append(wrong, plan(0, n), plan(299, n), plan(0, 101500, 1, n), plan(0, 0, 1, n, 2, 0))
	}
	for _, j := range []job{example(), tap(), mixed()} {
		for _, l := range wrong {
			if got := valueAnswer(die.Judge(j.tool, j.orders, l)); got != failed(api.ErrArg) {
				t.Error(j, l, got)
			}
		}
		for _, l := range [][]api.DieSetting{everyPiece(1001, 5), make([]api.DieSetting, 1001), slices.Repeat(plan(-1, 20000000001), 5000)} {
			if got := valueAnswer(die.Judge(j.tool, j.orders, l)); got != failed(api.ErrLong) {
				t.Error(j, len(l), got)
			}
		}
	}
	checkJudge(t, still(1001), everyPiece(1000, 5), 1000)
	checkJudge(t, still(1000), everyPiece(1000, 5), 1000)
	long := still(1001)
	if got := valueAnswer(die.Judge(long.tool, long.orders, everyPiece(1001, 5))); got != failed(api.ErrLong) {
		t.Error(got)
	}
}

// anyPlan returns settings before some pieces, the first one often before the piece 0.
func anyPlan(r *rand.Rand, pieces int, targets api.Span) []api.DieSetting {
	var l []api.DieSetting
	for from := max(r.IntN(5)-3, 0); from < pieces; from += 1 + r.IntN(5) {
		l = append(l, api.DieSetting{From: from, Target: within(r, targets)})
	}
	return l
}

// TestJudgeSearch is for P7.7: all truths of small jobs.
func TestJudgeSearch(t *testing.T) {
	r := dice()
	found := map[bool]int{}
	for range 600 {
		j, all := anyJob(r)
		s := searchOf(j, all)
		for range 20 {
			l := anyPlan(r, s.pieces, all)
			for i, setting := range l {
				// Most targets are right for a while.
				if right := s.targets(setting.From, setting.From+1); len(right) > 0 && r.IntN(10) > 0 {
					l[i].Target = right[r.IntN(len(right))]
				}
			}
			want := s.judge(l)
			found[want == s.pieces]++
			if got, e := die.Judge(j.tool, j.orders, l); got != want || e != api.OK {
				t.Fatal(j, l, got, e, want)
			}
		}
	}
	if found[true] < 1000 || found[false] < 1000 {
		t.Error("few have such results", found)
	}
}

// checkProves reports what Proves does not return as it should, of a job and of that job turned round.
func checkProves(t *testing.T, j job, l []int, want int) {
	t.Helper()
	for _, j := range []job{j, turnedRound(j)} {
		if got, e := die.Proves(j.tool, j.orders, l); got != want || e != api.OK {
			t.Error(j, l, got, e, want)
		}
	}
}

// TestProvesExample is for P7.8: the chapter's example 3, and further ones.
func TestProvesExample(t *testing.T) {
	for _, c := range []struct {
		want int
		l    []int
	}{
		{-1, []int{0, 231}}, {0, []int{0, 230}}, {-1, nil}, {-1, []int{5}}, {-1, []int{299}}, {-1, []int{0, 299}}, {1, []int{0, 231, 299}}, {1, []int{0, 231, 232}}, {0, []int{0, 1, 232}}, {0, []int{0, 1}}, {0, []int{231, 299}}, {-1, []int{228, 299}}, {0, []int{229, 299}}, {-1, []int{5, 232}}, {0, []int{5, 231}}, {0, []int{0, 230, 299}},
	} {
		checkProves(t, example(), c.l, c.want)
	}
	// No setting at all does for a piece that cannot be sure, whichever is asked with it, or lies between.
	for _, c := range []struct {
		want int
		l    []int
	}{
		{-1, []int{200, 201}}, {-1, []int{199, 200}}, {-1, []int{202, 203}}, {-1, []int{199, 203}}, {0, []int{198, 199}}, {0, []int{203, 204}}, {-1, []int{0, 200, 201, 202, 203}}, {4, []int{0, 200, 201, 202, 203, 205}},
	} {
		checkProves(t, mixed(), c.l, c.want)
	}
	checkProves(t, rising(), []int{0, 1}, 0)
	checkProves(t, rising(wears(just(51)), down), []int{0, 1}, -1)
	checkProves(t, still(1000), upTo(1000), -1)
}

// TestProvesErrors is for P7.8's errors, and for as many numbers as there may be.
func TestProvesErrors(t *testing.T) {
	wrong := [][]int{{0, 0}, {3, 2}, {0, 231, 231}, {0, 5, 231, 230}, {231, 0}, {299, 299}, append(upTo(299), 0), upTo(301), upTo(1000)}
	for _, n := range outside(0, 299) {
		wrong = append(wrong, []int{n}, []int{0, n}, []int{n, 5}, []int{0, 1, n}, []int{0, 231, n, 232}, []int{n, n})
	}
	for _, j := range []job{example(), tap(), mixed()} {
		for _, l := range wrong {
			if got := valueAnswer(die.Proves(j.tool, j.orders, l)); got != failed(api.ErrArg) {
				t.Error(j, l, got)
			}
		}
		for _, l := range [][]int{upTo(1001), make([]int, 1001), slices.Repeat([]int{-1}, 5000)} {
			if got := valueAnswer(die.Proves(j.tool, j.orders, l)); got != failed(api.ErrLong) {
				t.Error(j, len(l), got)
			}
		}
	}
	checkProves(t, still(1001), upTo(1000), -1)
	long := still(1001)
	if got := valueAnswer(die.Proves(long.tool, long.orders, upTo(1001))); got != failed(api.ErrLong) {
		t.Error(got)
	}
}

// TestProvesSearch is for P7.8: all truths and targets of small jobs, and a proof is one.
func TestProvesSearch(t *testing.T) {
	r := dice()
	found := map[int]int{}
	for range 600 {
		j, all := anyJob(r)
		s := searchOf(j, all)
		most := s.most(s.pieces)
		for range 20 {
			l := froms(anyPlan(r, s.pieces, all))
			want := -1
			for i := len(l) - 2; i >= 0; i-- {
				if len(s.targets(l[i], l[i+1]+1)) > 0 {
					want = i
				}
			}
			found[min(want, 1)]++
			if got, e := die.Proves(j.tool, j.orders, l); got != want || e != api.OK {
				t.Fatal(j, l, got, e, want)
			}
			if want == -1 && len(l) > 0 && most[len(l)-1] == s.pieces {
				t.Fatal("fewer settings can do", j, l)
			}
		}
	}
	if found[-1] < 500 || found[0] < 500 || found[1] < 100 {
		t.Error("few have such results", found)
	}
}
