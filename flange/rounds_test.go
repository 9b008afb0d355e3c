package flange_test

import (
	"slices"
	"testing"

	"acme/api"
	"acme/flange"
)

// checkRounds reports what Rounds does not return as it should; there is none if 0 is wanted.
func checkRounds(t *testing.T, r api.FlangeRules, order []int, torque, want int) {
	t.Helper()
	e := api.OK
	if want == 0 {
		e = api.ErrState
	}
	if got, f := flange.Rounds(r, order, torque); got != want || f != e {
		t.Error(r, order, torque, got, f, want, e)
	}
}

// TestRoundsExample is for P10.5, with the smallest forces after rounds of the chapter's example 2: 7350, 12432, 14063, then up to 14697 after the eighth one.
func TestRoundsExample(t *testing.T) {
	for force, want := range map[int]int{7350: 1, 7351: 2, 12432: 2, 12433: 3, 14063: 3, 14064: 4, 14694: 7, 14695: 8, 14697: 8, 14698: 0, 15000: 0} {
		checkRounds(t, example(need(force)), upTo(4), 66800000, want)
	}
	// DOC.md's example 8: four bolts that lose nothing.
	checkRounds(t, example(need(17000), shares(0, 0)), upTo(4), 66800000, 1)
	checkRounds(t, example(need(17350), shares(0, 0)), upTo(4), 66800000, 1)
	checkRounds(t, example(need(17351), shares(0, 0)), upTo(4), 66800000, 0)
	// Even without a force that is needed, a round is the least.
	checkRounds(t, example(need(0)), upTo(4), 66800000, 1)
	checkRounds(t, example(need(0)), upTo(4), 0, 1)
	checkRounds(t, example(need(1)), upTo(4), 0, 0)
}

// TestRoundsSafe is for P10.5: the whole plan is safe.
func TestRoundsSafe(t *testing.T) {
	checkRounds(t, example(need(7350)), upTo(4), 100200000, 1)
	checkRounds(t, example(need(7350)), upTo(4), 100300001, 0)
	checkRounds(t, example(need(0)), upTo(4), 100300001, 0)
	checkRounds(t, example(need(7351), yields(span(20000, 33000))), upTo(4), 66800000, 2)
	checkRounds(t, example(need(7351), yields(span(19999, 33000))), upTo(4), 66800000, 0)
}

// slow returns a flange that becomes tight slowly: after the rounds from 1 to 5 its smallest forces are 100000, 259862, 400907, 514012 and 605882, after those from 19 to 21 979008, 982974 and 986190. Its torque is 1000000.
func slow(needs int) api.FlangeRules { return example(plain(), around(3, 450), need(needs)) }

// TestRoundsMost is for P10.5 and P10.10: from 1 to 20 rounds, and no more.
func TestRoundsMost(t *testing.T) {
	for force, want := range map[int]int{1: 1, 99999: 1, 100000: 1, 100001: 2, 259862: 2, 259863: 3, 400907: 3, 400908: 4, 514013: 5, 605882: 5, 979008: 19, 979009: 20, 982974: 20, 982975: 0, 986190: 0, 1000000: 0, 1000001: 0} {
		checkRounds(t, slow(force), upTo(3), 1000000, want)
	}
	// The plan of these rounds may have more steps than there may be otherwise.
	twelve := around(12, 100, 90, 80, 70, 60, 50)
	for force, want := range map[int]int{15000000: 1, 15000001: 2, 99593157: 18, 99593158: 19, 99703628: 19, 99703629: 20, 99784098: 20, 99784099: 0} {
		checkRounds(t, example(plain(), twelve, need(force)), upTo(12), 100000000, want)
	}
}

// TestRoundsOrder is for P10.5: the rounds follow one another in the order that is asked for.
func TestRoundsOrder(t *testing.T) {
	for force, want := range map[int]int{12232: 2, 12233: 3, 12432: 3, 14528: 4, 14529: 5} {
		checkRounds(t, example(need(force)), []int{0, 1, 3, 2}, 66800000, want)
	}
	for force, want := range map[int]int{12541: 2, 12542: 3, 14529: 4, 14548: 4, 14549: 5} {
		checkRounds(t, example(need(force)), []int{0, 2, 1, 3}, 66800000, want)
	}
	for _, order := range [][]int{{0, 1, 2, 3}, {0, 2, 1, 3}, {3, 2, 1, 0}, {2, 0, 3, 1}, {1, 3, 2, 0}} {
		for rounds := 1; rounds <= 20; rounds++ {
			now := followed(t, example(), plan(66800000, slices.Repeat(order, rounds)...)...)
			before := followed(t, example(), plan(66800000, slices.Repeat(order, rounds-1)...)...)
			least, was := smallest(now.Forces), smallest(before.Forces)
			if least > was {
				checkRounds(t, example(need(least)), order, 66800000, rounds)
				checkRounds(t, example(need(was+1)), order, 66800000, rounds)
			}
		}
	}
}

// roundsOf returns the least number of rounds, by following all of them, or 0.
func roundsOf(t *testing.T, r api.FlangeRules, order []int, torque int) int {
	t.Helper()
	for rounds := 1; rounds <= 20; rounds++ {
		if isRight(r, followed(t, r, plan(torque, slices.Repeat(order, rounds)...)...)) {
			return rounds
		}
	}
	return 0
}

// TestRoundsSearch is for P10.5: what Tighten says of all steps.
func TestRoundsSearch(t *testing.T) {
	r := dice()
	found := map[int]int{}
	for range 300 {
		rules, torque := anyRules(r, 12), anyTorque(r)
		rules = wanting(t, r, rules, torque)
		order := r.Perm(rules.Bolts)
		want := roundsOf(t, rules, order, torque)
		checkRounds(t, rules, order, torque, want)
		found[min(want, 3)]++
	}
	for rounds := range 4 {
		if found[rounds] < 20 {
			t.Error("few have so many rounds", found)
		}
	}
}

// badOrders returns lists that are no orders of four bolts.
func badOrders() [][]int {
	l := [][]int{nil, {}, {0}, {0, 1, 2}, {0, 1, 2, 3, 4}, {0, 1, 2, 3, 3}, {0, 1, 2, 2}, {0, 0, 0, 0}, {3, 3, 1, 2}, {1, 2, 3, 4}, {4, 3, 2, 1}, {0, 1, 2, 4}, {-1, 1, 2, 3}, {0, 1, 2, 3, 0, 1, 2, 3}, upTo(12), make([]int, 1000), slices.Repeat(upTo(4), 1000)}
	for _, n := range outside(0, 3) {
		for place := range 4 {
			order := upTo(4)
			order[place] = n
			l = append(l, order, append(upTo(4), n))
		}
	}
	return l
}

// TestOrders is for P10.5's and P10.7's ErrForm: all lists of four numbers, and longer and shorter ones.
func TestOrders(t *testing.T) {
	for _, order := range lists(4, 5) {
		want := answer{zero: true, e: api.ErrForm}
		if isOrder(order) && !slices.Contains(order, 4) {
			want = answer{e: api.OK}
		}
		if got := roundsAnswer(flange.Rounds(example(need(0)), order, 66800000)); got != want {
			t.Error(order, got, want)
		}
		if got := listAnswer(flange.Right(example(need(0)), order, 1, []int{0})); got != want {
			t.Error(order, got, want)
		}
	}
	for _, order := range badOrders() {
		for _, torque := range append(outside(0, 10000000000000), 0, 66800000) {
			for _, force := range []int{0, 100000000} {
				if got := roundsAnswer(flange.Rounds(example(need(force)), order, torque)); got != failed(api.ErrForm) {
					t.Error(order, torque, got)
				}
			}
		}
	}
	for count := 3; count <= 12; count++ {
		r := example(even(count, 5), need(0))
		checkRounds(t, r, upTo(count), 66800000, 1)
		for _, other := range []int{count - 1, count + 1} {
			if got := roundsAnswer(flange.Rounds(r, upTo(other), 66800000)); got != failed(api.ErrForm) {
				t.Error(count, other, got)
			}
		}
	}
}

// TestRoundsErrors is for P10.5's errors of the torque, which come before ErrState.
func TestRoundsErrors(t *testing.T) {
	for _, c := range torqueCases() {
		for _, force := range []int{0, 100000000} {
			c.rules.Need = force
			got := roundsAnswer(flange.Rounds(c.rules, []int{2, 0, 1, 3}, c.torque))
			if c.want != api.OK && got != failed(c.want) || c.want == api.OK && got.e != api.OK && got != failed(api.ErrState) {
				t.Error(c, got)
			}
		}
	}
}
