package lot_test

import (
	"slices"
	"testing"

	"acme/api"
	"acme/lot"
)

// sayings returns all that gauges can say of a kind.
func sayings(answers []api.LotAnswer) [][]bool {
	all := [][]bool{nil}
	for _, answer := range answers {
		var longer [][]bool
		for _, says := range all {
			for _, goes := range []bool{false, true} {
				if can(answer, goes) {
					longer = append(longer, append(slices.Clone(says), goes))
				}
			}
		}
		all = longer
	}
	return all
}

// checkParted reports a piece whose kind is not known by a tree, whatever gauges say of it, or by too many gaugings, or if no piece needs as many as Depth says.
func checkParted(t *testing.T, g api.LotGauges) {
	t.Helper()
	tree, e := lot.Tree(g)
	depth, most := depthOf(t, g), 0
	if e != api.OK {
		t.Fatal(g, e)
	}
	for kind, answers := range g {
		for _, says := range sayings(answers) {
			got, many, e := lot.Walk(tree, says)
			if got != kind || many > depth || e != api.OK {
				t.Fatal(g, tree, kind, says, got, many, e)
			}
			most = max(most, many)
		}
	}
	if most != depth {
		t.Error(g, tree, depth, most)
	}
}

// TestParted is for P11.11: Walk through Tree returns the kind of a piece, whatever each gauge says of it; kinds that are alike are never parted.
func TestParted(t *testing.T) {
	r := dice()
	for _, g := range []api.LotGauges{example(), sure(), halving(), wide(), eachAlone(8, 10), kinds("e")} {
		checkParted(t, g)
	}
	found := map[bool]int{}
	for range 1500 {
		g := anyParted(r, 8, 10)
		pairs, e := lot.Alike(g)
		if e != api.OK {
			t.Fatal(g, e)
		}
		found[len(pairs) > 0]++
		if len(pairs) == 0 {
			checkParted(t, g)
			continue
		}
		if got, e := lot.Depth(g); got != 0 || e != api.ErrNone {
			t.Error(g, pairs, got, e)
		}
		if got, e := lot.Tree(g); got != nil || e != api.ErrNone {
			t.Error(g, pairs, got, e)
		}
		// Without eithers fewer kinds are alike.
		if same := surely(g); len(alikeByAnswers(same)) > 0 {
			if got, e := lot.Total(same, make([]int, len(g))); got != 0 || e != api.ErrNone {
				t.Error(same, got, e)
			}
		}
	}
	if found[false] < 500 || found[true] < 200 {
		t.Error("few kinds are parted, or alike", found)
	}
}

// TestNoFewer is for P11.12: with n gaugings at most 2 to the power of n kinds are parted, no parting has fewer gaugings than Depth, and Total is at most the number of all pieces times Depth, but at least the sum of some parting.
func TestNoFewer(t *testing.T) {
	r := dice()
	for range 1500 {
		g := anyParted(r, 5, 4)
		all := partings(g, upTo(len(g)))
		if len(all) == 0 {
			continue
		}
		depth := depthOf(t, g)
		if len(g) > 1<<depth || depth != leastDepth(all) {
			t.Error(g, depth)
		}
	}
	for range 1500 {
		g := surely(anyParted(r, 8, 10))
		counts, pieces := anyCounts(r, len(g)), 0
		for _, count := range counts {
			pieces += count
		}
		total, e := lot.Total(g, counts)
		depth, f := lot.Depth(g)
		if e != f || e == api.OK && (len(g) > 1<<depth || total > pieces*depth || len(g) > 1 && total < pieces) {
			t.Error(g, counts, total, e, depth, f)
		}
	}
}

// fewerGauges returns gauges without one of them.
func fewerGauges(g api.LotGauges, gauge int) api.LotGauges {
	var l api.LotGauges
	for _, answers := range g {
		l = append(l, slices.Delete(slices.Clone(answers), gauge, gauge+1))
	}
	return l
}

// TestMoreGauges is for P11.12: with more gauges Depth and Total do not grow; with fewer kinds neither.
func TestMoreGauges(t *testing.T) {
	r := dice()
	found := 0
	for range 2000 {
		g := anyParted(r, 8, 10)
		counts := anyCounts(r, len(g))
		depth, e := lot.Depth(g)
		total, f := lot.Total(surely(g), counts)
		if gauge := r.IntN(len(g[0])); len(g[0]) > 1 {
			less := fewerGauges(g, gauge)
			if before, e2 := lot.Depth(less); e2 == api.OK && (e != api.OK || depth > before) {
				t.Error(g, gauge, depth, e, before)
			}
			if before, f2 := lot.Total(surely(less), counts); f2 == api.OK && (f != api.OK || total > before) {
				t.Error(g, gauge, counts, total, f, before)
			}
		}
		if kind := r.IntN(len(g)); len(g) > 1 && e == api.OK {
			found++
			less := slices.Delete(slices.Clone(g), kind, kind+1)
			if after, e2 := lot.Depth(less); e2 != api.OK || after > depth {
				t.Error(g, kind, depth, after, e2)
			}
			after, f2 := lot.Total(surely(less), slices.Delete(slices.Clone(counts), kind, kind+1))
			if f == api.OK && (f2 != api.OK || after > total) {
				t.Error(g, kind, counts, total, after, f2)
			}
		}
	}
	if found < 500 {
		t.Error("few kinds are parted", found)
	}
}
