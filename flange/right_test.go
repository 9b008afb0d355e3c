package flange_test

import (
	"slices"
	"testing"

	"acme/api"
	"acme/flange"
)

// checkRight reports what Right does not return as it should.
func checkRight(t *testing.T, r api.FlangeRules, order []int, rounds int, torques []int, want ...int) {
	t.Helper()
	if got, e := flange.Right(r, order, rounds, torques); !slices.Equal(got, want) || e != api.OK {
		t.Error(r, order, rounds, torques, got, e, want)
	}
}

// TestRightExample is for P10.7, with the flange of the chapter's examples: tight with 7350 after a round, with 12432 after two.
func TestRightExample(t *testing.T) {
	torques := []int{66800000, 100200000, 0, 60000000, 100300001, 66800000}
	checkRight(t, example(need(7350)), upTo(4), 1, torques, 0, 1, 5)
	checkRight(t, example(need(7351)), upTo(4), 1, torques, 1)
	checkRight(t, example(need(7351)), upTo(4), 2, torques, 0, 1, 3, 5)
	checkRight(t, example(need(12432)), upTo(4), 2, torques, 0, 1, 5)
	checkRight(t, example(need(12432)), []int{0, 1, 3, 2}, 2, torques, 1)
	checkRight(t, example(need(12433)), []int{0, 2, 1, 3}, 2, torques, 0, 1, 5)
	checkRight(t, example(need(12433)), upTo(4), 2, torques, 1)
	checkRight(t, example(need(0)), upTo(4), 1, torques, 0, 1, 2, 3, 5)
	checkRight(t, example(need(100000000)), upTo(4), 20, torques)
	checkRight(t, example(), upTo(4), 20, nil)
	checkRight(t, example(need(0)), upTo(4), 20, []int{})
	// After just so many rounds.
	checkRight(t, example(need(0), yields(just(20000))), upTo(4), 3, torques, 0, 2, 3, 5)
	checkRight(t, example(need(0), yields(just(19999))), upTo(4), 3, torques, 2, 3)
}

// TestRightRounds is for P10.7: so many rounds as are asked for, up to 20.
func TestRightRounds(t *testing.T) {
	least := []int{100000, 259862, 400907, 514012, 605882, 680370, 740783, 789777, 829510, 861733, 887865, 909058, 926246, 940185, 951489, 960657, 968091, 974119, 979008, 982974}
	for i, force := range least {
		checkRight(t, slow(force), upTo(3), i+1, []int{1000000}, 0)
		checkRight(t, slow(force+1), upTo(3), i+1, []int{1000000})
	}
	twelve := around(12, 100, 90, 80, 70, 60, 50)
	checkRight(t, example(plain(), twelve, need(99784098)), upTo(12), 20, []int{99999999, 100000000}, 1)
	checkRight(t, example(plain(), twelve, need(99784099)), upTo(12), 20, []int{99999999, 100000000})
	checkRight(t, example(plain(), twelve, need(99703629)), upTo(12), 19, []int{100000000})
}

// TestRightSearch is for P10.7: what Tighten says of all steps.
func TestRightSearch(t *testing.T) {
	r := dice()
	found := map[int]int{}
	for range 300 {
		rules, torque := anyRules(r, 12), anyTorque(r)
		rules = wanting(t, r, rules, torque)
		order, rounds := r.Perm(rules.Bolts), 1+r.IntN(5)
		var torques, right []int
		for number := range r.IntN(10) {
			torques = append(torques, min(torque*(90+r.IntN(21))/100, 90000000))
			if isRight(rules, followed(t, rules, plan(torques[number], slices.Repeat(order, rounds)...)...)) {
				right = append(right, number)
			}
		}
		checkRight(t, rules, order, rounds, torques, right...)
		if len(torques) > 0 {
			found[len(right)*2/len(torques)]++
		}
	}
	if found[0] < 20 || found[1] < 20 || found[2] < 20 {
		t.Error("few torques are right, or not", found)
	}
}

// TestRightErrors is for P10.7's errors and their order, with each limit reached and passed by one.
func TestRightErrors(t *testing.T) {
	fail := func(r api.FlangeRules, order []int, rounds int, torques []int, want api.Errno) {
		t.Helper()
		if got := listAnswer(flange.Right(r, order, rounds, torques)); got != failed(want) {
			t.Error(r, order, rounds, torques, got, want)
		}
	}
	fifty := slices.Repeat([]int{66800000}, 50)
	long := [][]int{append(slices.Clone(fifty), 0), make([]int, 51), slices.Repeat([]int{-1}, 51), make([]int, 5000)}
	for _, torques := range append(long, nil, fifty, []int{-1}) {
		for _, rounds := range append(outside(1, 20), 1, 20) {
			for _, order := range badOrders() {
				fail(example(), order, rounds, torques, api.ErrForm)
			}
		}
		for _, rounds := range outside(1, 20) {
			fail(example(need(0)), upTo(4), rounds, torques, api.ErrRange)
		}
	}
	for _, rounds := range []int{1, 20} {
		for _, torques := range long {
			fail(example(need(0)), upTo(4), rounds, torques, api.ErrLong)
		}
		checkRight(t, example(need(0)), upTo(4), rounds, fifty, upTo(50)...)
		for _, c := range torqueCases() {
			if c.want != api.OK {
				fail(c.rules, upTo(4), rounds, []int{c.torque}, c.want)
				fail(c.rules, upTo(4), rounds, append(make([]int, 49), c.torque), c.want)
				fail(c.rules, upTo(4), rounds, append([]int{c.torque}, make([]int, 49)...), c.want)
			}
		}
	}
	for place := range 50 {
		torques := make([]int, 50)
		torques[place] = -1
		fail(example(need(0)), upTo(4), 1, torques, api.ErrRange)
	}
}
