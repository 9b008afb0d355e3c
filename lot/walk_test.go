package lot_test

import (
	"math"
	"slices"
	"testing"

	"acme/api"
	"acme/lot"
)

// checkWalk reports what Walk does not return as it should.
func checkWalk(t *testing.T, tree []api.LotNode, says []bool, kind, many int) {
	t.Helper()
	if gotKind, gotMany, e := lot.Walk(tree, says); gotKind != kind || gotMany != many || e != api.OK {
		t.Error(tree, says, gotKind, gotMany, e, kind, many)
	}
}

// TestWalkExample is for P11.5: the chapter's example 2, and others that are worked out by hand.
func TestWalkExample(t *testing.T) {
	tree := nodes("0?1:2,=0,1?3:4,=1,=2")
	checkWalk(t, tree, said("ynn"), 1, 2)
	checkWalk(t, tree, said("nyy"), 0, 1)
	checkWalk(t, tree, said("nnn"), 0, 1)
	checkWalk(t, tree, said("yyn"), 2, 2)
	// Just gauges of the tree must have said something.
	checkWalk(t, tree, said("yn"), 1, 2)
	checkWalk(t, tree, said("ynnnnnnnnn"), 1, 2)
	checkWalk(t, nodes("=0"), nil, 0, 0)
	checkWalk(t, nodes("=7"), said("yyyyyyyyyy"), 7, 0)
	// The yes can come before the no, and nodes need not be reached.
	checkWalk(t, nodes("1?4:2,=3,0?4:3,=5,=6"), said("yy"), 5, 2)
	checkWalk(t, nodes("1?4:2,=3,0?4:3,=5,=6"), said("ny"), 6, 2)
	checkWalk(t, nodes("1?4:2,=3,0?4:3,=5,=6"), said("yn"), 6, 1)
	checkWalk(t, nodes("=2,=3,0?3:4,=5,=6"), said("y"), 2, 0)
	// Both ways can be the same, and a gauge can be tried more than once.
	checkWalk(t, nodes("0?1:1,=4"), said("n"), 4, 1)
	checkWalk(t, nodes("0?1:1,=4"), said("y"), 4, 1)
	checkWalk(t, nodes("0?1:2,0?3:4,0?4:5,=1,=2,=3"), said("n"), 1, 2)
	checkWalk(t, nodes("0?1:2,0?3:4,0?4:5,=1,=2,=3"), said("y"), 3, 2)
	checkWalk(t, nodes("9?1:2,=1,8?3:4,=2,=3"), said("nnnnnnnnny"), 2, 2)
}

// chain returns a tree of so many nodes: inner ones one after another, and a leaf.
func chain(count int) []api.LotNode {
	var tree []api.LotNode
	for number := range count - 1 {
		tree = append(tree, inner(number%10, number+1, number+1))
	}
	return append(tree, leaf(7))
}

// TestWalkMost is for P11.5: as many nodes as there may be.
func TestWalkMost(t *testing.T) {
	for _, count := range []int{1, 2, 510, 511} {
		checkWalk(t, chain(count), said("ynynynynyn"), 7, count-1)
	}
	far := append([]api.LotNode{inner(9, 1, 510)}, slices.Repeat([]api.LotNode{leaf(1)}, 509)...)
	checkWalk(t, append(far, leaf(2)), said("nnnnnnnnny"), 2, 1)
	checkWalk(t, append(far, leaf(2)), said("yyyyyyyyyn"), 1, 1)
}

// badNodes returns nodes that are not right as the node 1 of four, if two gauges have said something.
func badNodes() []api.LotNode {
	l := []api.LotNode{{}, leaf(api.LotNone), inner(api.LotNone, api.LotNone, api.LotNone), {Gauge: 0, Kind: 0, No: 2, Yes: 3}, inner(0, 2, 4), inner(0, 4, 2), inner(0, 1, 2), inner(0, 2, 1), inner(0, 0, 2), inner(0, 2, 0), inner(0, api.LotNone, api.LotNone), inner(0, 2, api.LotNone), inner(0, api.LotNone, 2)}
	for _, n := range outside(0, 7) {
		l = append(l, leaf(n))
	}
	for _, n := range outside(0, 1) {
		l = append(l, inner(n, 2, 3))
	}
	for _, n := range outside(2, 3) {
		l = append(l, inner(1, n, 3), inner(1, 2, n))
	}
	for _, n := range append(extremes(), 2, 3) {
		if n != api.LotNone {
			// A leaf has just a kind, and an inner node has none.
			l = append(l, api.LotNode{Gauge: n, Kind: 5, No: api.LotNone, Yes: api.LotNone}, api.LotNode{Gauge: api.LotNone, Kind: 5, No: n, Yes: api.LotNone}, api.LotNode{Gauge: api.LotNone, Kind: 5, No: api.LotNone, Yes: n})
			l = append(l, api.LotNode{Gauge: 0, Kind: n, No: 2, Yes: 3})
		}
	}
	return l
}

// TestWalkErrors is for P11.5's errors and their order, with each limit reached and passed by one.
func TestWalkErrors(t *testing.T) {
	fail := func(tree []api.LotNode, says []bool, want api.Errno) {
		t.Helper()
		if got := walkAnswer(lot.Walk(tree, says)); got != failed(want) {
			t.Error(tree, says, got, want)
		}
	}
	ten := said("ynynynynyn")
	for _, tree := range [][]api.LotNode{chain(512), make([]api.LotNode, 512), make([]api.LotNode, 5000), slices.Repeat([]api.LotNode{leaf(0)}, 512)} {
		for _, says := range [][]bool{nil, ten, make([]bool, 11), make([]bool, 5000)} {
			fail(tree, says, api.ErrLong)
		}
	}
	for _, tree := range [][]api.LotNode{nil, {}, nodes("=0"), nodes("=8"), chain(511), make([]api.LotNode, 511)} {
		fail(tree, make([]bool, 11), api.ErrLong)
		fail(tree, make([]bool, 5000), api.ErrLong)
	}
	for _, says := range [][]bool{nil, {}, ten} {
		fail(nil, says, api.ErrArg)
		fail([]api.LotNode{}, says, api.ErrArg)
		fail(make([]api.LotNode, 511), says, api.ErrForm)
	}
	for _, node := range badNodes() {
		// Nodes that are not reached must be right, too.
		for _, says := range []string{"nn", "ny", "yn", "yy"} {
			fail([]api.LotNode{inner(0, 1, 2), node, leaf(1), leaf(2)}, said(says), api.ErrForm)
			fail([]api.LotNode{leaf(1), node, leaf(1), leaf(2)}, said(says), api.ErrForm)
		}
	}
	for _, node := range []api.LotNode{inner(0, 0, 0), inner(0, 1, 1), inner(0, 0, 1), leaf(8), leaf(-2), inner(0, math.MinInt, math.MaxInt)} {
		fail([]api.LotNode{node}, ten, api.ErrForm)
		fail([]api.LotNode{leaf(0), leaf(0), node}, ten, api.ErrForm)
	}
	// A gauge that has said nothing.
	for count := range 10 {
		tree := []api.LotNode{inner(count, 1, 2), leaf(0), leaf(1)}
		fail(tree, ten[:count], api.ErrForm)
		checkWalk(t, tree, make([]bool, count+1), 0, 1)
	}
	long := chain(511)
	long[510] = leaf(8)
	fail(long, ten, api.ErrForm)
	long[510] = inner(0, 511, 511)
	fail(long, ten, api.ErrForm)
}
