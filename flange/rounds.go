package flange

import (
	"slices"

	"acme/api"
	"acme/exact"
)

// isOrder reports whether these are the numbers of all bolts, each once.
func (f flange) isOrder(numbers ...int) bool {
	if len(numbers) != f.Bolts {
		return false
	}
	for number := range f.Bolts {
		if !slices.Contains(numbers, number) {
			return false
		}
	}
	return true
}

// round returns what is known after a step on each bolt of an order, with a torque that gives a bolt alone some force.
func (f flange) round(now state, alone api.Span, order ...int) state {
	for _, number := range order {
		now = f.tightened(now, number, alone)
	}
	return now
}

// fewest returns after how many rounds the flange is tight, and all of them are safe.
func (f flange) fewest(alone api.Span, order ...int) (int, api.Errno) {
	var now state
	for done := range api.MaxFlangeRounds {
		now = f.round(now, alone, order...)
		if f.tight(now) && f.safe(now) {
			return done + 1, api.OK
		}
	}
	return 0, api.ErrState
}

// Rounds returns how many rounds are needed.
func Rounds(r api.FlangeRules, order []int, torque int) (int, api.Errno) {
	f, e := flangeOf(r)
	if e != api.OK {
		return 0, e
	}
	if !f.isOrder(order...) {
		return 0, api.ErrForm
	}
	alone, e := f.alone(torque)
	if e != api.OK {
		return 0, e
	}
	return f.fewest(alone, order...)
}

// orders does something with each order that begins with some bolts, the smallest order first.
func (f flange) orders(do func(order []int), begun ...int) {
	if len(begun) == f.Bolts {
		do(begun)
		return
	}
	for number := range f.Bolts {
		if !slices.Contains(begun, number) {
			f.orders(do, append(slices.Clone(begun), number)...)
		}
	}
}

// Order returns the order that needs the fewest rounds.
func Order(r api.FlangeRules, torque int) (order []int, rounds int, e api.Errno) {
	f, e := flangeOf(r)
	if e != api.OK {
		return nil, 0, e
	}
	if f.Bolts > api.MaxFlangeTried {
		return nil, 0, api.ErrLong
	}
	alone, e := f.alone(torque)
	if e != api.OK {
		return nil, 0, e
	}
	keepBest := func(tried []int) {
		needed, e := f.fewest(alone, tried...)
		if e == api.OK && (order == nil || needed < rounds) {
			order, rounds = tried, needed
		}
	}
	f.orders(keepBest, 0)
	if order == nil {
		return nil, 0, api.ErrState
	}
	return order, rounds, api.OK
}

// Right returns the torques for which some rounds are enough.
func Right(r api.FlangeRules, order []int, rounds int, torques []int) ([]int, api.Errno) {
	f, e := flangeOf(r)
	if e != api.OK {
		return nil, e
	}
	if !f.isOrder(order...) {
		return nil, api.ErrForm
	}
	if !exact.AllFrom(1, api.MaxFlangeRounds, rounds) {
		return nil, api.ErrRange
	}
	if len(torques) > api.MaxFlangeTorques {
		return nil, api.ErrLong
	}
	var right []int
	for number, torque := range torques {
		alone, e := f.alone(torque)
		if e != api.OK {
			return nil, e
		}
		var now state
		for range rounds {
			now = f.round(now, alone, order...)
		}
		if f.tight(now) && f.safe(now) {
			right = append(right, number)
		}
	}
	return right, api.OK
}
