package bolt

import (
	"slices"

	"acme/api"
	"acme/exact"
)

// wanted returns the forces of a span with which the bolt is surely not beyond its yield; there are none if its Low is above its High.
func (k kind) wanted(want api.Span) api.Span {
	return api.Span{Low: want.Low, High: min(want.High, k.Yield.Low)}
}

// Right returns the torques that are right for all frictions.
func Right(b api.BoltKind, want, wrong api.Span) (api.Span, api.Errno) {
	k, e := kindOf(b)
	if e != api.OK {
		return api.Span{}, e
	}
	if !validForce(want) || !exact.ValidSpan(wrong, -api.MaxBoltTorque, api.MaxBoltTorque) {
		return api.Span{}, api.ErrRange
	}
	wanted, arms := k.wanted(want), k.arms()
	tooMuch := leastTorque(wanted.High+1, arms.Low)
	right := api.Span{High: min(tooMuch-1-wrong.High, api.MaxBoltTorque)}
	// A true torque is never below 0: where 0 is enough, all that is set is.
	if enough := leastTorque(wanted.Low, arms.High); enough > 0 {
		right.Low = max(enough-wrong.Low, 0)
	}
	if right.Low > right.High {
		return api.Span{}, api.ErrState
	}
	return right, api.OK
}

// Best returns the ways that surely bring about wanted forces, the best one first.
func Best(b api.BoltKind, ways []api.BoltWay, want api.Span) ([]int, api.Errno) {
	k, e := kindOf(b)
	if e != api.OK {
		return nil, e
	}
	if len(ways) > api.MaxBoltWays {
		return nil, api.ErrLong
	}
	if !validWays(ways...) {
		return nil, api.ErrArg
	}
	if !validForce(want) {
		return nil, api.ErrRange
	}
	numbers := k.right(k.wanted(want), ways...)
	if len(numbers) == 0 {
		return nil, api.ErrNone
	}
	width := func(number int) int {
		force := k.force(ways[number])
		return force.High - force.Low
	}
	slices.SortStableFunc(numbers, func(a, b int) int { return width(a) - width(b) })
	return numbers, api.OK
}

// right returns the numbers of the ways whose force surely is a wanted one.
func (k kind) right(wanted api.Span, ways ...api.BoltWay) []int {
	var numbers []int
	for number, w := range ways {
		force := k.force(w)
		if exact.AllFrom(wanted.Low, wanted.High, force.Low, force.High) {
			numbers = append(numbers, number)
		}
	}
	return numbers
}
