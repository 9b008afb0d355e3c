package lot

import (
	"iter"
	"math/bits"
	"slices"

	"acme/api"
)

// set is a set of kinds: the bit of each kind's number.
type set uint

// setOf returns the set of some kinds.
func setOf(kinds ...int) set {
	var s set
	for _, kind := range kinds {
		s |= 1 << kind
	}
	return s
}

// first returns the least number of the kinds of a set.
func (s set) first() int { return bits.TrailingZeros(uint(s)) }

// pieces returns how many pieces are of the kinds of a set, if there are so many of each kind.
func (s set) pieces(counts ...int) int {
	sum := 0
	for kind, count := range counts {
		if s>>kind&1 != 0 {
			sum += count
		}
	}
	return sum
}

// gauges is for each gauge which kinds can say no, and which can say yes.
type gauges [][2]set

// gaugesOf returns what gauges say, or their error.
func gaugesOf(g api.LotGauges) (gauges, api.Errno) {
	if e := Check(g); e != api.OK {
		return nil, e
	}
	said := make(gauges, len(g[0]))
	for kind, answers := range g {
		for gauge, answer := range answers {
			if answer != api.LotYes {
				said[gauge][api.LotNo] |= setOf(kind)
			}
			if answer != api.LotNo {
				said[gauge][api.LotYes] |= setOf(kind)
			}
		}
	}
	return said, api.OK
}

// all returns the set of all kinds.
func (g gauges) all() set { return g[0][api.LotNo] | g[0][api.LotYes] }

// doubtful reports whether some gauge says either of some kind.
func (g gauges) doubtful() bool {
	return slices.ContainsFunc(g, func(can [2]set) bool { return can[api.LotNo]&can[api.LotYes] != 0 })
}

// partings yields all gauges that are of use for a set, and the parts into which they part it.
func (g gauges) partings(s set) iter.Seq2[int, [2]set] {
	return func(yield func(int, [2]set) bool) {
		for gauge, can := range g {
			parts := [2]set{can[api.LotNo] & s, can[api.LotYes] & s}
			if !slices.Contains(parts[:], s) && !yield(gauge, parts) {
				return
			}
		}
	}
}

// alike reports whether no gauge parts two kinds for sure: a gauge that does is of use for just these two.
func (g gauges) alike(first, second int) bool {
	parted := false
	for range g.partings(setOf(first, second)) {
		parted = true
	}
	return !parted
}
