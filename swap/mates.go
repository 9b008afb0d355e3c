package swap

import (
	"iter"

	"acme/api"
	"acme/exact"
)

// exchange is standards whose screws are tried in the nuts of all of them, for so many turns over a depth.
type exchange struct {
	exact.Heights
	standards []api.SwapStandard
	turns     int
}

// exchangeOf returns the exchange of standards, or the first error of Mates.
func exchangeOf(l []api.SwapStandard, depth api.Span, turns int) (exchange, api.Errno) {
	if e := Check(l); e != api.OK {
		return exchange{}, e
	}
	x := exchange{exact.Heights{Span: depth}, l, turns}
	if !x.Heights.Valid() || !exact.AllFrom(1, api.MaxSwapTurns, turns) {
		return exchange{}, api.ErrRange
	}
	return x, api.OK
}

// pairs yields each of some numbers with each of them, in their order.
func pairs(numbers ...int) iter.Seq2[int, int] {
	return func(yield func(int, int) bool) {
		for _, first := range numbers {
			for _, second := range numbers {
				if !yield(first, second) {
					return
				}
			}
		}
	}
}

// mates returns the pairs of a standard of screws and one of nuts for which enough turns are told.
func (x exchange) mates(told func(screws, nuts standard, over exact.Heights) int) [][2]int {
	var l [][2]int
	for screws, nuts := range pairs(upTo(len(x.standards))...) {
		if told(standard{x.standards[screws]}, standard{x.standards[nuts]}, x.Heights) >= x.turns {
			l = append(l, [2]int{screws, nuts})
		}
	}
	return l
}

// upTo returns the numbers from 0 to count - 1.
func upTo(count int) []int {
	numbers := make([]int, count)
	for number := range count {
		numbers[number] = number
	}
	return numbers
}

// Mates returns which standards' screws go into which standards' nuts.
func Mates(l []api.SwapStandard, depth api.Span, turns int) (surely, possibly [][2]int, e api.Errno) {
	x, e := exchangeOf(l, depth, turns)
	if e != api.OK {
		return nil, nil, e
	}
	return x.mates(standard.least), x.mates(standard.most), api.OK
}
