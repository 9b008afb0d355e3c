package die_test

import (
	"slices"
	"testing"

	"acme/api"
	"acme/die"
)

// mixed returns a job some of whose pieces cannot be sure: the pieces 200 to 202.
func mixed() job {
	return example(orders(200, 0, 100000, 110000, 3, 1, 100000, 102999, 97, 1, 100000, 110000))
}

// still returns a job each of whose pieces needs a setting of its own.
func still(pieces int) job {
	return example(set(just(0)), scatter(just(0)), wears(just(1)), orders(pieces, 0, 5, 5))
}

// TestPlanExample is for P7.5: the chapter's example 3, and further ones.
func TestPlanExample(t *testing.T) {
	for i, c := range []struct {
		j    job
		want []api.DieSetting
	}{
		{example(), plan(0, 101500, 231, 101500)}, {tap(), plan(0, 10000000000-101500, 231, 10000000000-101700)}, {example(orders(200, 0, 100000, 110000)), plan(0, 101500)}, {tap(func(j *job) { j.orders = j.orders[:1] }), plan(0, 10000000000-104520)},
		{rising(), plan(0, 140)}, {rising(down), plan(0, 170)}, {rising(wears(just(201))), plan(0, 100, 1, 150)}, {rising(wears(just(51)), down), plan(0, 100, 1, 150)},
		{still(1), plan(0, 5)}, {still(3), plan(0, 5, 1, 5, 2, 5)}, {example(set(just(1000000)), scatter(just(1000000)), zone(just(0)), wears(just(0), just(0))), plan(0, -2000000)},
		{example(set(just(-1000000)), scatter(just(-1000000)), zone(just(10000000000)), wears(just(0), just(0))), plan(0, 10002000000)},
	} {
		if got, e := die.Plan(c.j.tool, c.j.orders); !slices.Equal(got, c.want) || e != api.OK {
			t.Error(i, c.j, got, e)
		}
	}
}

// TestPlanLong is for P7.5: a plan has as many settings as it needs, also more than a list of settings that is an argument may have.
func TestPlanLong(t *testing.T) {
	j := still(10000)
	manyOrders(40)(&j)
	got, e := die.Plan(j.tool, j.orders)
	if len(got) != 400000 || e != api.OK {
		t.Fatal(len(got), e)
	}
	for i, setting := range got {
		if setting != (api.DieSetting{From: i, Target: 5}) {
			t.Fatal(i, setting)
		}
	}
}

// TestPlanNone is for P7.5's error: the piece that cannot be sure is the first one, the last one, or one between.
func TestPlanNone(t *testing.T) {
	for i, j := range []job{
		mixed(), example(zone(span(0, 2999))), example(orders(1, 0, 0, 2999, 5, 0, 0, 9000)), example(orders(5, 0, 0, 9000, 1, 0, 0, 2999)), example(orders(5, 0, 0, 9000, 1, 0, 0, 2999, 300, 0, 0, 9000)),
		rising(set(span(0, 101))), rising(scatter(span(-50, 51))), example(set(just(0)), scatter(span(0, 1)), zone(just(5))), example(set(span(0, 1)), scatter(just(0)), zone(just(5))),
	} {
		for _, j := range []job{j, turnedRound(j)} {
			if got := listAnswer(die.Plan(j.tool, j.orders)); got != failed(api.ErrNone) {
				t.Error(i, j, got)
			}
		}
	}
}

// TestPlanSearch is for P7.5 and P7.6: all truths, targets and settings of small jobs.
func TestPlanSearch(t *testing.T) {
	r := dice()
	found := map[int]int{}
	for range 600 {
		j, all := anyJob(r)
		s := searchOf(j, all)
		var want []api.DieSetting
		from := 0
		for from < s.pieces && s.reach(from) > from {
			to := s.reach(from)
			want = append(want, api.DieSetting{From: from, Target: s.targets(from, to)[0]})
			from = to
		}
		wanted := api.OK
		if from < s.pieces {
			want, wanted = nil, api.ErrNone
		}
		found[len(want)]++
		if got, e := die.Plan(j.tool, j.orders); !slices.Equal(got, want) || e != wanted {
			t.Fatal(j, got, e, want)
		}
		for settings, most := range s.most(s.pieces + 2) {
			if got, e := die.Most(j.tool, j.orders, settings); got != most || e != api.OK {
				t.Fatal(j, settings, got, e, most)
			}
		}
	}
	for settings := range 4 {
		if found[settings] < 20 {
			t.Error("few have such results", found)
		}
	}
}

// TestMostExample is for P7.6: the chapter's example 3, and further ones.
func TestMostExample(t *testing.T) {
	long := still(10000)
	for i, c := range []struct {
		j              job
		settings, want int
	}{
		{example(), 0, 0}, {example(), 1, 231}, {example(), 2, 300}, {example(), 3, 300}, {example(), 1000, 300},
		{mixed(), 0, 0}, {mixed(), 1, 200}, {mixed(), 2, 200}, {mixed(), 1000, 200}, {example(zone(span(0, 2999))), 0, 0}, {example(zone(span(0, 2999))), 1000, 0},
		{long, 1, 1}, {long, 2, 2}, {long, 999, 999}, {long, 1000, 1000}, {still(3), 2, 2}, {still(3), 3, 3}, {still(3), 4, 3}, {rising(), 1, 2},
	} {
		for _, j := range []job{c.j, turnedRound(c.j)} {
			if got, e := die.Most(j.tool, j.orders, c.settings); got != c.want || e != api.OK {
				t.Error(i, j, c.settings, got, e)
			}
		}
	}
}

// TestMostErrors is for P7.6's error.
func TestMostErrors(t *testing.T) {
	for _, settings := range outside(0, 1000) {
		for _, j := range []job{example(), tap(), mixed()} {
			if got := valueAnswer(die.Most(j.tool, j.orders, settings)); got != failed(api.ErrRange) {
				t.Error(j, settings, got)
			}
		}
	}
}
