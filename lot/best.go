package lot

import "acme/api"

// parting is the gauge by which a set is parted best, its parts, and what the whole parting costs. A set with one kind has no gauge, and costs nothing.
type parting struct {
	gauge, cost int
	parts       [2]set
	found       bool
}

// best is how sets of kinds are parted at the least cost.
type best struct {
	gauges
	known map[set]parting
	// cost is that of a set, from the costs of its parts: it does not fall if one of them rises.
	cost func(s set, no, yes int) int
}

// shallow returns the partings with the least depth.
func (g gauges) shallow() best {
	depth := func(_ set, no, yes int) int { return 1 + max(no, yes) }
	return best{gauges: g, known: map[set]parting{}, cost: depth}
}

// cheap returns the partings with the fewest gaugings, for so many pieces of each kind.
func (g gauges) cheap(counts ...int) best {
	gaugings := func(s set, no, yes int) int { return s.pieces(counts...) + no + yes }
	return best{gauges: g, known: map[set]parting{}, cost: gaugings}
}

// of returns the best parting of a set, by the first gauge with which it can be had.
func (b best) of(s set) parting {
	if p, done := b.known[s]; done {
		return p
	}
	p := parting{gauge: api.LotNone, found: s == setOf(s.first())}
	for gauge, parts := range b.partings(s) {
		no, yes := b.of(parts[api.LotNo]), b.of(parts[api.LotYes])
		if !no.found || !yes.found {
			continue
		}
		if cost := b.cost(s, no.cost, yes.cost); !p.found || cost < p.cost {
			p = parting{gauge: gauge, cost: cost, parts: parts, found: true}
		}
	}
	b.known[s] = p
	return p
}

// least returns the least cost of a set.
func (b best) least(s set) (int, api.Errno) {
	p := b.of(s)
	if !p.found {
		return 0, api.ErrNone
	}
	return p.cost, api.OK
}

// grown returns a tree with all nodes of the best parting of a set behind its own.
func (b best) grown(tree []api.LotNode, s set) []api.LotNode {
	p, at := b.of(s), len(tree)
	if p.gauge == api.LotNone {
		return append(tree, leaf(s.first()))
	}
	tree = append(tree, api.LotNode{Gauge: p.gauge, Kind: api.LotNone, No: at + 1})
	tree = b.grown(tree, p.parts[api.LotNo])
	tree[at].Yes = len(tree)
	return b.grown(tree, p.parts[api.LotYes])
}
