package lot_test

import (
	"slices"
	"testing"

	"acme/api"
	"acme/lot"
)

// checkTree reports what Depth and Tree do not return as they should; there is no parting without nodes.
func checkTree(t *testing.T, g api.LotGauges, depth int, tree []api.LotNode) {
	t.Helper()
	want := api.OK
	if len(tree) == 0 {
		want = api.ErrNone
	}
	if got, e := lot.Depth(g); got != depth || e != want {
		t.Error("Depth", g, got, e, depth, want)
	}
	if got, e := lot.Tree(g); !slices.Equal(got, tree) || e != want {
		t.Error("Tree", g, got, e, tree, want)
	}
}

// TestTreeExample is for P11.3 and P11.4: the chapter's example 1, and others that are worked out by hand.
func TestTreeExample(t *testing.T) {
	for _, c := range []struct {
		gauges string
		depth  int
		tree   string
	}{
		{"nne,ynn,yyy", 2, "0?1:2,=0,1?3:4,=1,=2"}, {"nnn,ynn,yyy", 2, "0?1:2,=0,1?3:4,=1,=2"},
		{"n", 0, "=0"}, {"e", 0, "=0"}, {"yeeneeeeee", 0, "=0"},
		{"n,y", 1, "0?1:2,=0,=1"}, {"y,n", 1, "0?1:2,=1,=0"},
		// The first gauge of use: one by which a part has all kinds, or none, is of no use.
		{"nyen,nyny", 1, "3?1:2,=0,=1"}, {"enyn,eyny", 1, "1?1:2,=0,=1"}, {"nn,yy", 1, "0?1:2,=0,=1"}, {"neen,yeey", 1, "0?1:2,=0,=1"},
		// The least depth comes before the first gauge.
		{"nnn,nny,nyn,yyy", 2, "1?1:4,2?2:3,=0,=1,0?5:6,=2,=3"}, {"nnny,nnyy,nyny,ynyn", 2, "2?1:4,1?2:3,=0,=2,0?5:6,=1,=3"},
		// A kind of which a gauge says either is in both parts.
		{"nen,eny,yye", 2, "0?1:4,2?2:3,=0,=1,1?5:6,=1,=2"}, {"nn,ye,yy,en", 0, ""},
		{"nne,nyn,yen,eyy", 3, "0?1:6,1?2:3,=0,2?4:5,=1,=3,2?7:8,=2,=3"},
		// No parting.
		{"n,n", 0, ""}, {"e,e", 0, ""}, {"n,e", 0, ""}, {"n,e,y", 0, ""}, {"nn,ny,yn,yn", 0, ""}, {"yen,ynn,eny", 0, ""},
	} {
		var tree []api.LotNode
		if c.tree != "" {
			tree = nodes(c.tree)
		}
		checkTree(t, kinds(c.gauges), c.depth, tree)
	}
}

// TestTreeParts is for P11.4: in each part, too, the least depth is had, though a gauge before it would not make the whole tree deeper.
func TestTreeParts(t *testing.T) {
	// Just the gauge 4 parts the kinds 4 to 7 into halves; the kinds 0 to 3 are parted one by one.
	checkTree(t, kinds("nynnn,nnynn,nnnyn,nnnnn,yynny,ynyny,ynnyn,ynnnn"), 4, nodes("0?1:8,1?2:7,2?3:6,3?4:5,=3,=2,=1,=0,4?9:12,3?10:11,=7,=6,1?13:14,=5,=4"))
	checkTree(t, kinds("yynny,ynyny,ynnyn,ynnnn,nynnn,nnynn,nnnyn,nnnnn"), 4, nodes("0?1:8,1?2:7,2?3:6,3?4:5,=7,=6,=5,=4,4?9:12,3?10:11,=3,=2,1?13:14,=1,=0"))
}

// TestTreeMost is for P11.3 and P11.4: as many kinds and gauges as there may be, and as deep as a tree can be.
func TestTreeMost(t *testing.T) {
	checkTree(t, halving(), 3, nodes("0?1:8,1?2:5,2?3:4,=0,=1,2?6:7,=2,=3,1?9:12,2?10:11,=4,=5,2?13:14,=6,=7"))
	checkTree(t, eachAlone(8, 10), 7, nodes("0?1:14,1?2:13,2?3:12,3?4:11,4?5:10,5?6:9,6?7:8,=7,=6,=5,=4,=3,=2,=1,=0"))
	checkTree(t, eachAlone(8, 7), 7, nodes("0?1:14,1?2:13,2?3:12,3?4:11,4?5:10,5?6:9,6?7:8,=7,=6,=5,=4,=3,=2,=1,=0"))
	checkTree(t, eachAlone(8, 6), 0, nil)
	checkTree(t, eachAlone(2, 10), 1, nodes("0?1:2,=1,=0"))
	// The last gauge is the only one of use.
	checkTree(t, kinds("nnnnnnnnnn,nnnnnnnnny"), 1, nodes("9?1:2,=0,=1"))
	// Each gauge parts just one pair of five kinds: each node has all but one of the kinds before it.
	pairs := kinds("nnnneeeeee,yeeennneee,eyeeyeenne,eeyeeyeyen,eeeyeeyeyy")
	tree, e := lot.Tree(pairs)
	if len(tree) != 31 || e != api.OK || depthOf(t, pairs) != 4 {
		t.Error(tree, e)
	}
	checkTree(t, pairs, 4, firstBest(pairs, upTo(5)).written(nil))
}

// TestTreeSearch is for P11.3 and P11.4: all partings of up to five kinds.
func TestTreeSearch(t *testing.T) {
	r := dice()
	found := map[int]int{}
	for range 3000 {
		g := anyParted(r, 5, 4)
		best := firstBest(g, upTo(len(g)))
		if best == nil {
			checkTree(t, g, 0, nil)
			found[-1]++
			continue
		}
		checkTree(t, g, best.depth(), best.written(nil))
		found[best.depth()]++
	}
	if found[-1] < 100 || found[0] < 100 || found[1] < 100 || found[2] < 100 || found[3] < 100 {
		t.Error("few trees are so deep", found)
	}
}

// within reports whether a set has a parting with at most so many gaugings.
func within(g api.LotGauges, set []int, gaugings int) bool {
	if len(set) == 1 {
		return true
	}
	for gauge := range g[0] {
		no, yes := part(g, set, gauge, false), part(g, set, gauge, true)
		if gaugings > 0 && len(no) < len(set) && len(yes) < len(set) && within(g, no, gaugings-1) && within(g, yes, gaugings-1) {
			return true
		}
	}
	return false
}

// checkNode reports a node that is not the right one for a set, and looks at all nodes after it in the same way. It returns the number of the node after them.
func checkNode(t *testing.T, g api.LotGauges, tree []api.LotNode, at int, set []int) int {
	t.Helper()
	if len(set) == 1 {
		if tree[at] != leaf(set[0]) {
			t.Fatal(g, tree, at, set)
		}
		return at + 1
	}
	depth := 0
	for !within(g, set, depth) {
		depth++
	}
	for gauge := range g[0] {
		no, yes := part(g, set, gauge, false), part(g, set, gauge, true)
		if len(no) < len(set) && len(yes) < len(set) && within(g, no, depth-1) && within(g, yes, depth-1) {
			other := checkNode(t, g, tree, at+1, no)
			if tree[at] != inner(gauge, at+1, other) {
				t.Fatal(g, tree, at, set)
			}
			return checkNode(t, g, tree, other, yes)
		}
	}
	panic("a set that can be parted has a gauge")
}

// TestTreeWide is for P11.3 and P11.4: trees of up to 8 kinds and 10 gauges, node by node.
func TestTreeWide(t *testing.T) {
	r := dice()
	all := []api.LotGauges{wide(), halving(), eachAlone(8, 10)}
	for range 1500 {
		all = append(all, anyParted(r, 8, 10))
	}
	found := map[int]int{}
	for _, g := range all {
		tree, e := lot.Tree(g)
		if none := len(alikeByAnswers(g)) > 0; none {
			checkTree(t, g, 0, nil)
			continue
		}
		if e != api.OK || checkNode(t, g, tree, 0, upTo(len(g))) != len(tree) {
			t.Fatal(g, tree, e)
		}
		depth := depthOf(t, g)
		if !within(g, upTo(len(g)), depth) || depth > 0 && within(g, upTo(len(g)), depth-1) {
			t.Error(g, depth)
		}
		found[depth]++
	}
	if found[3] < 100 || found[4] < 20 || found[5] < 1 {
		t.Error("few trees are so deep", found)
	}
}
