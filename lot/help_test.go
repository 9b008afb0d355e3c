package lot_test

import (
	"math"
	"math/rand/v2"
	"slices"
	"strconv"
	"strings"
	"testing"

	"acme/api"
	"acme/lot"
)

// kinds returns gauges from words as chapter 14 writes them: a letter n, y or e for each answer, with a comma between kinds.
func kinds(text string) api.LotGauges {
	var g api.LotGauges
	for word := range strings.SplitSeq(text, ",") {
		var answers []api.LotAnswer
		for _, letter := range word {
			answers = append(answers, api.LotAnswer(strings.IndexRune("nye", letter)))
		}
		g = append(g, answers)
	}
	return g
}

// nodes returns a tree from a text as chapter 14 writes it.
func nodes(text string) []api.LotNode {
	var tree []api.LotNode
	number := func(word string) int {
		n, err := strconv.Atoi(word)
		if err != nil {
			panic(err)
		}
		return n
	}
	for word := range strings.SplitSeq(text, ",") {
		if kind, found := strings.CutPrefix(word, "="); found {
			tree = append(tree, leaf(number(kind)))
			continue
		}
		gauge, ways, _ := strings.Cut(word, "?")
		no, yes, _ := strings.Cut(ways, ":")
		tree = append(tree, inner(number(gauge), number(no), number(yes)))
	}
	return tree
}

func leaf(kind int) api.LotNode {
	return api.LotNode{Gauge: api.LotNone, Kind: kind, No: api.LotNone, Yes: api.LotNone}
}

func inner(gauge, no, yes int) api.LotNode {
	return api.LotNode{Gauge: gauge, Kind: api.LotNone, No: no, Yes: yes}
}

// said returns what gauges say of a piece: a letter n or y for each.
func said(text string) []bool {
	var l []bool
	for _, letter := range text {
		l = append(l, letter == 'y')
	}
	return l
}

// example returns the gauges of the chapter's examples, and sure the ones with no for the either.
func example() api.LotGauges { return kinds("nne,ynn,yyy") }

func sure() api.LotGauges { return kinds("nnn,ynn,yyy") }

// eachAlone returns so many kinds, at most one more than gauges: each gauge lets just one kind go.
func eachAlone(count, gauges int) api.LotGauges {
	g := make(api.LotGauges, count)
	for kind := range g {
		g[kind] = make([]api.LotAnswer, gauges)
		if kind < gauges {
			g[kind][kind] = api.LotYes
		}
	}
	return g
}

// halving returns 8 kinds that three gauges part into halves.
func halving() api.LotGauges { return kinds("nnn,nny,nyn,nyy,ynn,yny,yyn,yyy") }

// wide returns as many kinds and gauges as there may be, where most gauges leave most kinds in both parts.
func wide() api.LotGauges {
	return kinds("nenneeeynn,eeeennnnee,eeyeyynyee,eneyyeyeyy,eeeynyyyye,eyyeyneeey,yeeeeeyenn,yenneyenye")
}

func span(low, high int) api.Span { return api.Span{Low: low, High: high} }

func just(n int) api.Span { return span(n, n) }

func ratio(num, den int) api.Ratio { return api.Ratio{Num: num, Den: den} }

func plan(sample, accept int) api.LotPlan { return api.LotPlan{Sample: sample, Accept: accept} }

// extremes are numbers for which careless arithmetic does not fit.
func extremes() []int {
	return []int{math.MinInt, math.MinInt + 1, -1 << 40, -1, 0, 1, 1 << 40, math.MaxInt - 1, math.MaxInt}
}

// outside returns numbers that are not from low to high.
func outside(low, high int) []int {
	l := []int{low - 1, high + 1}
	for _, n := range extremes() {
		if n < low || n > high {
			l = append(l, n)
		}
	}
	return l
}

// dice returns a source of the same numbers each time.
func dice() *rand.Rand { return rand.New(rand.NewPCG(11, 15)) }

// anyGauges returns from 1 to so many kinds and gauges; of a tenth, a third or most of them gauges say either, or of none.
func anyGauges(r *rand.Rand, mostKinds, mostGauges int) api.LotGauges {
	g := make(api.LotGauges, 1+r.IntN(mostKinds))
	count, either := 1+r.IntN(mostGauges), []int{0, 3, 10, 20}[r.IntN(4)]
	for kind := range g {
		for range count {
			answer := api.LotAnswer(r.IntN(2))
			if r.IntN(30) < either {
				answer = api.LotEither
			}
			g[kind] = append(g[kind], answer)
		}
	}
	return g
}

// anyParted returns gauges like those of anyGauges, of which most part all kinds: pairs that are alike are parted by some gauge.
func anyParted(r *rand.Rand, mostKinds, mostGauges int) api.LotGauges {
	g := anyGauges(r, mostKinds, mostGauges)
	for range 20 {
		for _, pair := range alikeByAnswers(g) {
			gauge := r.IntN(len(g[0]))
			g[pair[0]][gauge], g[pair[1]][gauge] = api.LotNo, api.LotYes
		}
	}
	return g
}

// surely returns gauges with no for each either.
func surely(g api.LotGauges) api.LotGauges {
	var l api.LotGauges
	for _, answers := range g {
		answers = slices.Clone(answers)
		for i := range answers {
			answers[i] %= api.LotEither
		}
		l = append(l, answers)
	}
	return l
}

// anyCounts returns numbers of pieces of so many kinds, from none to most that there may be.
func anyCounts(r *rand.Rand, count int) []int {
	var counts []int
	for range count {
		counts = append(counts, r.IntN([]int{1, 3, 20, api.MaxLotCount + 1}[r.IntN(4)]))
	}
	return counts
}

// upTo returns the numbers from 0 to count - 1.
func upTo(count int) []int {
	var numbers []int
	for number := range count {
		numbers = append(numbers, number)
	}
	return numbers
}

// can reports whether a gauge can say of a kind that it goes, or that it does not.
func can(answer api.LotAnswer, goes bool) bool {
	return answer == api.LotEither || answer == api.LotYes && goes || answer == api.LotNo && !goes
}

// part returns the kinds of a set of which a gauge can say so.
func part(g api.LotGauges, set []int, gauge int, goes bool) []int {
	var l []int
	for _, kind := range set {
		if can(g[kind][gauge], goes) {
			l = append(l, kind)
		}
	}
	return l
}

// parting is a parting by the chapter's words: a gauge and both partings, or a leaf with a kind.
type parting struct {
	gauge, kind int
	no, yes     *parting
}

// partings returns all partings of a set.
func partings(g api.LotGauges, set []int) []*parting {
	if len(set) == 1 {
		return []*parting{{gauge: api.LotNone, kind: set[0]}}
	}
	var all []*parting
	for gauge := range g[0] {
		no, yes := part(g, set, gauge, false), part(g, set, gauge, true)
		if len(no) == len(set) || len(yes) == len(set) {
			continue
		}
		for _, first := range partings(g, no) {
			for _, second := range partings(g, yes) {
				all = append(all, &parting{gauge: gauge, kind: api.LotNone, no: first, yes: second})
			}
		}
	}
	return all
}

func (p *parting) depth() int {
	if p.gauge == api.LotNone {
		return 0
	}
	return 1 + max(p.no.depth(), p.yes.depth())
}

// tried returns how many gauges are tried on a piece of a kind of which each gauge says the same each time.
func (p *parting) tried(answers []api.LotAnswer) int {
	if p.gauge == api.LotNone {
		return 0
	}
	if can(answers[p.gauge], true) {
		return 1 + p.yes.tried(answers)
	}
	return 1 + p.no.tried(answers)
}

// written returns a parting as a tree, behind other nodes.
func (p *parting) written(tree []api.LotNode) []api.LotNode {
	at := len(tree)
	tree = append(tree, api.LotNode{Gauge: p.gauge, Kind: p.kind, No: api.LotNone, Yes: api.LotNone})
	if p.gauge != api.LotNone {
		tree[at].No = len(tree)
		tree = p.no.written(tree)
		tree[at].Yes = len(tree)
		tree = p.yes.written(tree)
	}
	return tree
}

// leastDepth returns the least depth of some partings.
func leastDepth(all []*parting) int {
	least := math.MaxInt
	for _, p := range all {
		least = min(least, p.depth())
	}
	return least
}

// firstBest returns the parting that Tree must return, by looking at all partings of each set; nil if there is none.
func firstBest(g api.LotGauges, set []int) *parting {
	all := partings(g, set)
	if len(all) == 0 || len(set) == 1 {
		return slices.Concat(all, []*parting{nil})[0]
	}
	gauge, least := math.MaxInt, leastDepth(all)
	for _, p := range all {
		if p.depth() == least {
			gauge = min(gauge, p.gauge)
		}
	}
	no, yes := firstBest(g, part(g, set, gauge, false)), firstBest(g, part(g, set, gauge, true))
	return &parting{gauge: gauge, kind: api.LotNone, no: no, yes: yes}
}

// depthOf returns the depth of gauges that part all kinds.
func depthOf(t *testing.T, g api.LotGauges) int {
	t.Helper()
	depth, e := lot.Depth(g)
	if e != api.OK {
		t.Fatal(g, e)
	}
	return depth
}

// chanceOf returns the chance of a lot and a plan that are valid.
func chanceOf(t *testing.T, size, bad int, p api.LotPlan) api.Ratio {
	t.Helper()
	chance, e := lot.Chance(size, bad, p)
	if e != api.OK {
		t.Fatal(size, bad, p, e)
	}
	return chance
}

// notAbove reports whether a ratio is at most another one; the product of a num and a den of chances must fit.
func notAbove(a, b api.Ratio) bool { return a.Num*b.Den <= b.Num*a.Den }

// fails returns the chance not to pass.
func fails(pass api.Ratio) api.Ratio { return ratio(pass.Den-pass.Num, pass.Den) }

// anyRisk returns a risk; some are 0 or 1, and small ones are as frequent as others.
func anyRisk(r *rand.Rand) api.Ratio {
	den := 1 + r.IntN([]int{1, 10, 100, api.MaxLotDen}[r.IntN(4)])
	return ratio(r.IntN(den/(1+r.IntN(10))+1), den)
}
