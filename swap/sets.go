package swap

import (
	"cmp"
	"slices"

	"acme/api"
	"acme/exact"
)

// goes says which standards' screws surely go into which standards' nuts, by their numbers.
type goes [api.MaxSwapStandards][api.MaxSwapStandards]bool

// surely returns which pairs of an exchange surely go.
func (x exchange) surely() goes {
	var g goes
	for _, pair := range x.mates(standard.least) {
		g[pair[0]][pair[1]] = true
	}
	return g
}

// exchanged reports whether all screws of a set go into all nuts of it.
func (g goes) exchanged(set []int) bool {
	for screws, nuts := range pairs(set...) {
		if !g[screws][nuts] {
			return false
		}
	}
	return true
}

// served reports whether all screws of each number go into all nuts of one standard of a set.
func (g goes) served(screws, set []int) bool {
	lacks := func(screw int) bool {
		return !slices.ContainsFunc(set, func(nut int) bool { return g[screw][nut] })
	}
	return !slices.ContainsFunc(screws, lacks)
}

// sets returns all sets of the numbers from 0 to count - 1 that are kept, as ascending lists.
func sets(count int, kept func(set []int) bool) [][]int {
	all := [][]int{nil}
	for number := range count {
		for _, set := range all {
			all = append(all, append(slices.Clone(set), number))
		}
	}
	return slices.DeleteFunc(all, func(set []int) bool { return !kept(set) })
}

// Set returns the most standards that can all be exchanged.
func Set(l []api.SwapStandard, depth api.Span, turns int) ([]int, api.Errno) {
	x, e := exchangeOf(l, depth, turns)
	if e != api.OK {
		return nil, e
	}
	largest := func(a, b []int) int { return cmp.Or(len(b)-len(a), slices.Compare(a, b)) }
	return slices.MinFunc(sets(len(l), x.surely().exchanged), largest), api.OK
}

// Stock returns the fewest standards whose nuts are enough for some screws.
func Stock(l []api.SwapStandard, screws []int, depth api.Span, turns int) ([]int, api.Errno) {
	if e := Check(l); e != api.OK {
		return nil, e
	}
	if len(screws) > api.MaxSwapScrews {
		return nil, api.ErrLong
	}
	if !exact.AllFrom(0, len(l)-1, screws...) {
		return nil, api.ErrNone
	}
	x, e := exchangeOf(l, depth, turns)
	if e != api.OK {
		return nil, e
	}
	surely := x.surely()
	enough := sets(len(l), func(set []int) bool { return surely.served(screws, set) })
	if len(enough) == 0 {
		return nil, api.ErrState
	}
	smallest := func(a, b []int) int { return cmp.Or(len(a)-len(b), slices.Compare(a, b)) }
	return slices.MinFunc(enough, smallest), api.OK
}
