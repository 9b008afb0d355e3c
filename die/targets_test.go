package die_test

import (
	"testing"

	"acme/api"
	"acme/die"
)

// rising returns a job of two pieces, the second of which has a higher zone.
func rising(changes ...change) job {
	j := example(set(just(0)), scatter(just(0)), wears(span(10, 20)), orders(1, 0, 100, 200, 1, 0, 150, 300))
	for _, c := range changes {
		c(&j)
	}
	return j
}

func down(j *job) { j.tool.Down = true }

// checkTargets reports what Targets does not return as it should, of a job and of that job turned round.
func checkTargets(t *testing.T, j job, from, to int, want api.Span) {
	t.Helper()
	if got, e := die.Targets(j.tool, j.orders, from, to); got != want || e != api.OK {
		t.Error(j, from, to, got, e, want)
	}
	k := turnedRound(j)
	if got, e := die.Targets(k.tool, k.orders, from, to); got != turned(want) || e != api.OK {
		t.Error(k, from, to, got, e, turned(want))
	}
}

// TestTargetsExample is for P7.3: the chapter's example 1, and further ones.
func TestTargetsExample(t *testing.T) {
	for _, c := range []struct {
		from, to int
		want     api.Span
	}{
		{0, 1, span(101500, 108500)}, {0, 200, span(101500, 104520)}, {0, 2, span(101500, 108480)}, {0, 201, span(101500, 104500)}, {0, 202, span(101500, 104400)}, {0, 231, just(101500)},
		{199, 201, span(101500, 108480)}, {200, 202, span(101500, 108400)}, {231, 300, span(101500, 101700)}, {299, 300, span(101500, 108500)},
	} {
		checkTargets(t, example(), c.from, c.to, c.want)
	}
	lowest, highest := example(set(just(1000000)), scatter(just(1000000)), zone(just(0))), example(set(just(-1000000)), scatter(just(-1000000)), zone(just(10000000000)))
	for _, c := range []struct {
		j    job
		to   int
		want api.Span
	}{
		{rising(), 1, span(100, 200)}, {rising(), 2, span(140, 200)}, {rising(down), 1, span(100, 200)}, {rising(down), 2, span(170, 200)},
		{rising(set(span(-3, 5))), 1, span(103, 195)}, {rising(set(span(-3, 5))), 2, span(143, 195)}, {rising(set(span(-3, 5)), down), 2, span(173, 195)}, {rising(set(just(7))), 2, span(133, 193)},
		{rising(scatter(span(1, 2))), 2, span(139, 198)}, {rising(scatter(span(1, 2)), set(span(-3, 5))), 1, span(102, 193)}, {rising(scatter(span(-4, -3)), down), 2, span(174, 203)},
		{rising(wears(just(0))), 2, span(150, 200)}, {rising(wears(span(0, 50))), 2, span(150, 200)}, {rising(wears(span(50, 120))), 2, span(100, 180)}, {rising(wears(just(50)), down), 2, just(200)},
		{lowest, 1, just(-2000000)}, {highest, 1, just(10002000000)}, {example(wears(just(0)), orders(10000, 0, 3000, 6000), manyOrders(40)), 400000, just(4500)},
	} {
		checkTargets(t, c.j, 0, c.to, c.want)
	}
}

// TestTargetsNone is for P7.3: there is no target.
func TestTargetsNone(t *testing.T) {
	for i, c := range []struct {
		j        job
		from, to int
	}{
		{example(), 0, 232}, {example(), 0, 300}, {example(), 1, 232}, {example(), 200, 272}, {example(zone(span(0, 2999))), 0, 1}, {example(zone(span(0, 3000))), 0, 2}, {example(zone(just(100000))), 299, 300},
		{rising(wears(just(50)), set(span(0, 1)), down), 0, 2}, {rising(wears(just(51)), down), 0, 2}, {rising(wears(just(201))), 0, 2}, {rising(zone(span(5, 9)), set(span(0, 5))), 0, 1},
	} {
		for _, j := range []job{c.j, turnedRound(c.j)} {
			if got := valueAnswer(die.Targets(j.tool, j.orders, c.from, c.to)); got != failed(api.ErrState) {
				t.Error(i, j, got)
			}
		}
	}
}

// TestTargetsErrors is for P7.3's errors: numbers that are out of range come before targets that there are not.
func TestTargetsErrors(t *testing.T) {
	for _, pair := range pairsOutside(300, false) {
		for _, j := range []job{example(), tap(), example(zone(just(5)))} {
			if got := valueAnswer(die.Targets(j.tool, j.orders, pair[0], pair[1])); got != failed(api.ErrRange) {
				t.Error(j, pair, got)
			}
		}
	}
}

// TestTargetsSearch is for P7.3 and P7.4: all truths and targets of small jobs.
func TestTargetsSearch(t *testing.T) {
	r := dice()
	found := map[api.Errno]int{}
	for range 600 {
		j, all := anyJob(r)
		s := searchOf(j, all)
		for from := range s.pieces {
			for to := from + 1; to <= s.pieces; to++ {
				l := s.targets(from, to)
				var want api.Span
				wanted := api.ErrState
				if len(l) > 0 {
					want, wanted = span(l[0], l[len(l)-1]), api.OK
				}
				if len(l) > 0 && (l[0] == all.Low || want.High == all.High || want.High-want.Low+1 != len(l)) {
					t.Fatal("the search is too narrow, or there are gaps", j, l)
				}
				if got, e := die.Targets(j.tool, j.orders, from, to); got != want || e != wanted {
					t.Fatal(j, from, to, got, e, l)
				}
				found[wanted]++
			}
			if got, e := die.Reach(j.tool, j.orders, from); got != s.reach(from) || e != api.OK {
				t.Fatal(j, from, got, e, s.reach(from))
			}
		}
	}
	if found[api.OK] < 2000 || found[api.ErrState] < 2000 {
		t.Error("few have such results", found)
	}
}

// TestReachExample is for P7.4: the chapter's example 2, and further ones.
func TestReachExample(t *testing.T) {
	narrow := example(orders(200, 0, 100000, 110000, 1, 1, 100000, 102999, 99, 1, 100000, 110000))
	for i, c := range []struct {
		j          job
		from, want int
	}{
		{example(), 0, 231}, {example(), 231, 300}, {example(), 1, 231}, {example(), 4, 231}, {example(), 5, 232}, {example(), 199, 270}, {example(), 200, 271}, {example(), 228, 299}, {example(), 229, 300}, {example(), 299, 300},
		{narrow, 0, 200}, {narrow, 199, 200}, {narrow, 200, 200}, {narrow, 201, 272}, {narrow, 299, 300},
		{example(zone(span(0, 2999))), 0, 0}, {example(zone(span(0, 2999))), 299, 299}, {example(zone(span(0, 3000))), 0, 1}, {example(zone(span(0, 3019))), 0, 1}, {example(zone(span(0, 3020))), 0, 2}, {example(zone(span(0, 3000)), wears(just(0), just(1))), 0, 201},
		{rising(), 0, 2}, {rising(), 1, 2}, {rising(wears(just(51)), down), 0, 1}, {rising(wears(just(50)), down), 0, 2},
		{example(wears(just(0)), orders(10000, 0, 3000, 6000), manyOrders(40)), 0, 400000}, {example(wears(just(1)), orders(10000, 0, 3000, 36000), manyOrders(40)), 0, 30001},
	} {
		for _, j := range []job{c.j, turnedRound(c.j)} {
			if got, e := die.Reach(j.tool, j.orders, c.from); got != c.want || e != api.OK {
				t.Error(i, j, c.from, got, e, c.want)
			}
		}
	}
}

// TestReachErrors is for P7.4's error.
func TestReachErrors(t *testing.T) {
	for _, from := range outside(0, 299) {
		for _, j := range []job{example(), tap(), example(zone(just(5)))} {
			if got := valueAnswer(die.Reach(j.tool, j.orders, from)); got != failed(api.ErrRange) {
				t.Error(j, from, got)
			}
		}
	}
}
