package flange_test

import (
	"slices"
	"testing"

	"acme/api"
	"acme/flange"
)

// checkOrder reports what Order does not return as it should; there is none if no order is wanted.
func checkOrder(t *testing.T, r api.FlangeRules, torque, want int, order ...int) {
	t.Helper()
	e := api.OK
	if len(order) == 0 {
		e = api.ErrState
	}
	if got, rounds, f := flange.Order(r, torque); !slices.Equal(got, order) || rounds != want || f != e {
		t.Error(r, torque, got, rounds, f, order, want, e)
	}
}

// TestOrderExample is for P10.6, with the flange of the chapter's examples: the smallest forces after two rounds are 12432 in the order 0, 1, 2, 3 and in that order mirrored, 12232 in the orders 0, 1, 3, 2 and 0, 3, 1, 2, and 12541 in the orders 0, 2, 1, 3 and 0, 2, 3, 1; after five rounds they are 14651, 14653 and 14658.
func TestOrderExample(t *testing.T) {
	checkOrder(t, example(need(7350)), 66800000, 1, 0, 1, 2, 3)
	checkOrder(t, example(need(7351)), 66800000, 2, 0, 1, 2, 3)
	checkOrder(t, example(need(12432)), 66800000, 2, 0, 1, 2, 3)
	checkOrder(t, example(need(12433)), 66800000, 2, 0, 2, 1, 3)
	checkOrder(t, example(need(12541)), 66800000, 2, 0, 2, 1, 3)
	checkOrder(t, example(need(12542)), 66800000, 3, 0, 1, 2, 3)
	checkOrder(t, example(need(14651)), 66800000, 5, 0, 1, 2, 3)
	checkOrder(t, example(need(14652)), 66800000, 5, 0, 1, 3, 2)
	checkOrder(t, example(need(14654)), 66800000, 5, 0, 2, 1, 3)
	checkOrder(t, example(), 66800000, 0)
	checkOrder(t, example(need(0)), 0, 1, 0, 1, 2, 3)
	checkOrder(t, example(need(1)), 0, 0)
	// The plan is safe, or there is no order.
	checkOrder(t, example(need(7351), yields(span(20000, 33000))), 66800000, 2, 0, 1, 2, 3)
	checkOrder(t, example(need(7351), yields(span(19999, 33000))), 66800000, 0)
	checkOrder(t, example(need(0)), 100300001, 0)
}

// TestOrderMost is for P10.6: up to 20 rounds, from 3 to 6 bolts.
func TestOrderMost(t *testing.T) {
	checkOrder(t, slow(982974), 1000000, 20, 0, 1, 2)
	checkOrder(t, slow(982975), 1000000, 0)
	for count := 3; count <= 6; count++ {
		checkOrder(t, example(even(count, 0), need(17350)), 66800000, 1, upTo(count)...)
		checkOrder(t, example(even(count, 0), need(17351)), 66800000, 0)
	}
}

// TestOrderSearch is for P10.6: what Rounds says of all orders.
func TestOrderSearch(t *testing.T) {
	r := dice()
	found, later := map[int]int{}, 0
	for range 300 {
		rules, torque := anyRules(r, 6), anyTorque(r)
		rules = wanting(t, r, rules, torque)
		var best []int
		least := 0
		for _, order := range ordersFrom0(rules.Bolts) {
			if rounds, e := flange.Rounds(rules, order, torque); e == api.OK && (least == 0 || rounds < least) {
				best, least = order, rounds
			}
		}
		checkOrder(t, rules, torque, least, best...)
		found[min(least, 3)]++
		if least > 0 && !slices.Equal(best, upTo(rules.Bolts)) {
			later++
		}
	}
	if found[0] < 20 || found[1] < 20 || found[2] < 20 || found[3] < 20 || later < 10 {
		t.Error("few orders are of all sorts", found, later)
	}
}

// TestOrderErrors is for P10.6's errors and their order.
func TestOrderErrors(t *testing.T) {
	fail := func(r api.FlangeRules, torque int, want api.Errno) {
		t.Helper()
		if got := orderAnswer(flange.Order(r, torque)); got != failed(want) {
			t.Error(r, torque, got, want)
		}
	}
	for _, torque := range append(outside(0, 10000000000000), 0, 66800000) {
		for count := 7; count <= 12; count++ {
			fail(example(even(count, 5), need(0)), torque, api.ErrLong)
			fail(example(even(count, 5), need(100000000)), torque, api.ErrLong)
		}
	}
	for _, torque := range outside(0, 10000000000000) {
		for count := 3; count <= 6; count++ {
			fail(example(even(count, 5), need(0)), torque, api.ErrRange)
			fail(example(even(count, 5), need(100000000)), torque, api.ErrRange)
		}
	}
	for _, c := range torqueCases() {
		if c.want != api.OK {
			fail(c.rules, c.torque, c.want)
		}
	}
}
