package lot_test

import (
	"reflect"
	"slices"
	"testing"

	"acme/api"
	"acme/lot"
)

// both keeps a result and its error together, and pair keeps two.
func both[T any](value T, e api.Errno) any { return [2]any{value, e} }

func pair[T, U any](first T, second U, e api.Errno) any { return [3]any{first, second, e} }

// allAnswers returns the results of all functions.
func allAnswers(g api.LotGauges, a asked) []any {
	return []any{
		lot.Check(g), both(lot.Alike(g)), both(lot.Depth(g)), both(lot.Tree(g)), pair(lot.Walk(a.tree, a.said)), both(lot.Total(g, a.counts)), both(lot.Counts(g, a.pieces, a.went)),
		both(lot.Chance(a.size, a.bad, a.plan)), both(lot.Plan(a.size, a.good, a.bad, a.hard, a.soft)), both(lot.Bound(a.size, a.plan, a.hard)),
	}
}

// TestTerminates is for P1: no function panics, whatever its arguments are.
func TestTerminates(t *testing.T) {
	for _, n := range extremes() {
		for _, m := range extremes() {
			strange := []asked{
				{counts: []int{n, m, 0}, went: []int{n, m, 0}, pieces: 5, tree: []api.LotNode{{Gauge: n, Kind: m, No: n, Yes: m}}, said: said("ny"), size: n, bad: m, good: n, plan: plan(n, m), hard: ratio(n, m), soft: ratio(m, n)},
				{counts: []int{n, m}, went: []int{m}, pieces: n, tree: []api.LotNode{inner(0, n, m), inner(m, 2, 2), leaf(n)}, said: said("ny"), size: 50, bad: n, good: m, plan: plan(n, m), hard: ratio(n, m), soft: ratio(1, 2)},
				{counts: []int{n}, went: []int{0, n, m}, pieces: 16, tree: []api.LotNode{inner(0, 1, 2), leaf(n), inner(1, n, m)}, size: 50, bad: 25, good: 1, plan: plan(25, m), hard: ratio(1, 2), soft: ratio(n, m)},
				usual(example()), {},
			}
			for _, g := range []api.LotGauges{
				nil, {nil}, example(), sure(), wide(), kinds("e"), eachAlone(2, 1), with(example(), 1, 1, api.LotAnswer(n)), {{api.LotAnswer(n)}, {api.LotAnswer(m)}}, {{api.LotAnswer(m), api.LotYes}, {api.LotAnswer(n)}}, make(api.LotGauges, 5000), eachAlone(2, 5000),
			} {
				for _, a := range strange {
					allAnswers(g, a)
				}
			}
		}
	}
}

// manyAsks returns gauges and what is asked of them and of others, right and wrong.
func manyAsks() (gauges []api.LotGauges, asks []asked) {
	r := dice()
	for _, wrong := range [][]api.LotGauges{longGauges(), emptyGauges(), raggedGauges()[:10], wrongGauges()[:10]} {
		gauges = append(gauges, wrong...)
	}
	gauges, asks = append(gauges, goodGauges()[:12]...), append(wrongAsked(), usual(example()), usual(wide()), asked{})
	for range 20 {
		g := anyParted(r, 6, 10)
		gauges = append(gauges, g, surely(g))
		a := usual(g)
		a.pieces = r.IntN(7)
		_, a.went = truly(r, g, a.pieces)
		a.counts, a.tree, a.said = anyCounts(r, len(g)), chain(1+r.IntN(20)), said("ynynynynyn")
		a.size, a.hard, a.soft = 10+r.IntN(20), anyRisk(r), anyRisk(r)
		asks = append(asks, a)
	}
	return gauges, asks
}

// behind returns a list with some more behind its end, and that end.
func behind[T any](l []T, more ...T) (list, whole []T) {
	whole = append(slices.Clone(l), more...)
	return whole[:len(l)], whole
}

// TestEqualResults is for P2 and R4: equal arguments have equal results, whatever was called before, and no argument is changed, nor what lies behind its end.
func TestEqualResults(t *testing.T) {
	gauges, asks := manyAsks()
	var once []any
	for _, g := range gauges {
		for _, a := range asks {
			list, all := behind(g, []api.LotAnswer{97}, []api.LotAnswer{98})
			var inside [][]api.LotAnswer
			for kind := range list {
				answers, whole := behind(list[kind], 97, 98)
				list[kind], inside = answers, append(inside, whole)
			}
			var counts, went []int
			var tree []api.LotNode
			var says []bool
			a.counts, counts = behind(a.counts, 97, 98)
			a.went, went = behind(a.went, 97, 98)
			a.tree, tree = behind(a.tree, leaf(97), leaf(98))
			a.said, says = behind(a.said, true, true)
			var insideBefore [][]api.LotAnswer
			for _, whole := range inside {
				insideBefore = append(insideBefore, slices.Clone(whole))
			}
			before := []any{slices.Clone(all), insideBefore, slices.Clone(counts), slices.Clone(went), slices.Clone(tree), slices.Clone(says)}
			once = append(once, allAnswers(list, a))
			if after := []any{all, inside, counts, went, tree, says}; !reflect.DeepEqual(before, after) {
				t.Error("an argument has changed", g, before, after)
			}
		}
	}
	for i, g := range gauges {
		for k, a := range asks {
			if again := allAnswers(g, a); !reflect.DeepEqual(once[i*len(asks)+k], any(again)) {
				t.Error("results differ", g, a, again)
			}
		}
	}
}

// spoil changes a list, and what lies behind its end.
func spoil[T any](bad T, l []T) {
	for i := range l {
		l[i] = bad
	}
	_ = append(l, bad, bad)
}

// TestNewMemory is for R4: results share no memory with arguments or with one another.
func TestNewMemory(t *testing.T) {
	alike, parted, went := kinds("n,n,e"), example(), []int{6, 2, 5}
	answers := func() []any {
		pairs, _ := lot.Alike(alike)
		tree, _ := lot.Tree(parted)
		spans, _ := lot.Counts(parted, 10, went)
		copies := []any{slices.Clone(pairs), slices.Clone(tree), slices.Clone(spans)}
		spoil([2]int{-1, -1}, pairs)
		spoil(leaf(-1), tree)
		spoil(just(-1), spans)
		return copies
	}
	want := []any{[][2]int{{0, 1}, {0, 2}, {1, 2}}, nodes("0?1:2,=0,1?3:4,=1,=2"), []api.Span{just(4), just(4), just(2)}}
	for range 2 {
		if got := answers(); !reflect.DeepEqual(got, want) {
			t.Error("results share memory", got, want)
		}
	}
	if !reflect.DeepEqual(alike, kinds("n,n,e")) || !reflect.DeepEqual(parted, example()) || !slices.Equal(went, []int{6, 2, 5}) {
		t.Error("an argument has changed", alike, parted, went)
	}
}

// TestEmpty is for R3: a nil list and an empty one are the same.
func TestEmpty(t *testing.T) {
	full := usual(example())
	full.counts, full.went, full.tree, full.said = []int{}, []int{}, []api.LotNode{}, []bool{}
	none := full
	none.counts, none.went, none.tree, none.said = nil, nil, nil, nil
	for _, pairs := range [][2]api.LotGauges{{nil, {}}, {{nil}, {{}}}, {{{0}, nil}, {{0}, {}}}, {example(), example()}} {
		for _, a := range []asked{none, full} {
			if got, want := allAnswers(pairs[0], a), allAnswers(pairs[1], none); !reflect.DeepEqual(got, want) {
				t.Error(pairs, got, want)
			}
		}
	}
	checkWalk(t, nodes("=3"), nil, 3, 0)
	checkWalk(t, nodes("=3"), []bool{}, 3, 0)
}

// TestFull is for R7: as much as there may be of all, with numbers as great as they can be.
func TestFull(t *testing.T) {
	a := asked{
		counts: slices.Repeat([]int{1000000}, 8), went: []int{2, 2, 2, 2, 2, 2, 2, 2, 0, 0}, pieces: 16, tree: chain(511), said: said("ynynynynyn"),
		size: 50, bad: 50, good: 49, plan: plan(50, 49), hard: ratio(10000, 10000), soft: ratio(0, 10000),
	}
	want := []any{
		api.OK, both([][2]int(nil), api.OK), both(7, api.OK), both(nodes("0?1:14,1?2:13,2?3:12,3?4:11,4?5:10,5?6:9,6?7:8,=7,=6,=5,=4,=3,=2,=1,=0"), api.OK), pair(7, 510, api.OK), both(35000000, api.OK), both(slices.Repeat([]api.Span{just(2)}, 8), api.OK),
		both(ratio(0, 1), api.OK), both(plan(1, 0), api.OK), both(49, api.OK),
	}
	if got := allAnswers(eachAlone(8, 10), a); !reflect.DeepEqual(got, want) {
		t.Error(got, want)
	}
}
