package lot_test

import (
	"math"
	"slices"
	"testing"

	"acme/api"
	"acme/lot"
)

// goodGauges returns gauges that are as they should be, with each limit reached.
func goodGauges() []api.LotGauges {
	l := []api.LotGauges{example(), sure(), halving(), wide(), kinds("n"), kinds("y"), kinds("e"), kinds("n,n"), kinds("e,e,e,e,e,e,e,e")}
	for count := 1; count <= 8; count++ {
		for gauges := 1; gauges <= 10; gauges++ {
			l = append(l, eachAlone(count, gauges))
		}
	}
	return l
}

// with returns gauges of which one says something else of a kind.
func with(g api.LotGauges, kind, gauge int, answer api.LotAnswer) api.LotGauges {
	g = slices.Clone(g)
	g[kind] = slices.Clone(g[kind])
	g[kind][gauge] = answer
	return g
}

// cut returns gauges of which just so many say something of a kind; more than there are say no.
func cut(g api.LotGauges, kind, count int) api.LotGauges {
	g = slices.Clone(g)
	g[kind] = append(slices.Clone(g[kind]), make([]api.LotAnswer, 5000)...)[:count]
	return g
}

// badAnswers are no answers of gauges.
func badAnswers() []api.LotAnswer {
	l := []api.LotAnswer{-1, 3, 4, 5}
	for _, n := range outside(0, 2) {
		l = append(l, api.LotAnswer(n))
	}
	return l
}

// longGauges returns too many kinds, or gauges; other errors come later.
func longGauges() []api.LotGauges {
	l := []api.LotGauges{eachAlone(9, 8), make(api.LotGauges, 9), make(api.LotGauges, 5000), cut(eachAlone(9, 8), 3, 5), with(eachAlone(9, 8), 0, 0, 3), eachAlone(1, 11), eachAlone(8, 11), eachAlone(9, 11)}
	for kind := range 8 {
		l = append(l, cut(eachAlone(8, 10), kind, 11), cut(make(api.LotGauges, 8), kind, 11), cut(with(eachAlone(8, 10), 0, 0, 3), kind, 5000), cut(cut(eachAlone(8, 10), 0, 9), kind, 11))
	}
	return l
}

// emptyGauges returns no kind, or a first one without answers; other errors come later.
func emptyGauges() []api.LotGauges {
	return []api.LotGauges{nil, {}, {nil}, {{}}, make(api.LotGauges, 8), {nil, {api.LotNo}}, {{}, {api.LotNo}}, {{}, {7}, {7, 7}}, cut(eachAlone(8, 10), 0, 0)}
}

// raggedGauges returns kinds of which not all have as many answers as the first one, and no kind before them has a wrong answer.
func raggedGauges() []api.LotGauges {
	l := []api.LotGauges{kinds("nn,n"), kinds("n,nn"), kinds("nn,nn,nnn"), {{api.LotNo}, nil}, {{api.LotNo}, {}}, {{api.LotNo, api.LotYes}, {3}}, {{api.LotNo}, {3, 3}}, {{api.LotNo}, {}, {3}}}
	for kind := 1; kind < 8; kind++ {
		for _, count := range []int{0, 1, 8, 10} {
			bad := cut(eachAlone(8, 9), kind, count)
			l = append(l, bad)
			if count > 0 {
				l = append(l, with(bad, kind, 0, 3))
			}
			for later := kind + 1; later < 8; later++ {
				l = append(l, with(bad, later, 8, -1))
			}
		}
	}
	return l
}

// wrongGauges returns kinds with an answer that there is not, of which none before it has too few or too many.
func wrongGauges() []api.LotGauges {
	var l []api.LotGauges
	for _, answer := range badAnswers() {
		l = append(l, api.LotGauges{{answer}}, api.LotGauges{{answer}, nil}, api.LotGauges{{api.LotEither, answer}, {api.LotNo}})
		for kind := range 8 {
			for gauge := range 10 {
				l = append(l, with(eachAlone(8, 10), kind, gauge, answer))
			}
			for later := kind + 1; later < 8; later++ {
				l = append(l, cut(with(eachAlone(8, 10), kind, 5, answer), later, 9))
			}
		}
	}
	return l
}

// badGauges returns gauges with an error, by what it is.
func badGauges() map[api.Errno][]api.LotGauges {
	return map[api.Errno][]api.LotGauges{api.ErrLong: longGauges(), api.ErrArg: append(emptyGauges(), wrongGauges()...), api.ErrForm: raggedGauges()}
}

// TestCheck is for P11.1.
func TestCheck(t *testing.T) {
	for _, g := range goodGauges() {
		if e := lot.Check(g); e != api.OK {
			t.Error(g, e)
		}
	}
	for want, l := range badGauges() {
		for _, g := range l {
			if e := lot.Check(g); e != want {
				t.Error(g, e, want)
			}
		}
	}
}

// asked is all that is asked of gauges, trees and lots.
type asked struct {
	counts, went []int
	pieces       int
	tree         []api.LotNode
	said         []bool
	size, bad    int
	good         int
	plan         api.LotPlan
	hard, soft   api.Ratio
}

// usual returns what can be asked of gauges.
func usual(g api.LotGauges) asked {
	a := asked{tree: nodes("0?1:2,=0,=7"), said: said("n"), size: 20, good: 1, bad: 6, plan: plan(5, 1), hard: ratio(1, 10), soft: ratio(1, 5)}
	a.counts = make([]int, len(g))
	if len(g) > 0 {
		a.went = make([]int, len(g[0]))
	}
	return a
}

// wrongAsked returns what cannot be asked.
func wrongAsked() []asked {
	return []asked{
		{counts: []int{-1}, went: []int{1, 2}, pieces: -1, tree: nodes("=8"), size: 0, plan: plan(1, 0), hard: ratio(1, 0)},
		{counts: make([]int, 9), went: make([]int, 11), pieces: 17, tree: make([]api.LotNode, 512), said: make([]bool, 11), size: 51, bad: 52, plan: plan(-1, -1), hard: ratio(0, 1), soft: ratio(0, 1)},
		{counts: nil, went: nil, pieces: math.MinInt, tree: nodes("0?1:0,=1"), said: said("y"), size: math.MaxInt, good: math.MinInt, bad: math.MaxInt, plan: plan(math.MaxInt, math.MaxInt), hard: ratio(math.MaxInt, math.MaxInt)},
		{pieces: math.MaxInt},
	}
}

// answer is whether all results are zero values, and the error.
type answer struct {
	zero bool
	e    api.Errno
}

func failed(e api.Errno) answer { return answer{zero: true, e: e} }

func listAnswer[T any](l []T, e api.Errno) answer { return answer{zero: l == nil, e: e} }

func valueAnswer[T comparable](value T, e api.Errno) answer {
	var zero T
	return answer{zero: value == zero, e: e}
}

func walkAnswer(kind, many int, e api.Errno) answer {
	return answer{zero: kind == 0 && many == 0, e: e}
}

// gaugeAnswers returns what all functions with gauges answer.
func gaugeAnswers(g api.LotGauges, a asked) map[string]answer {
	return map[string]answer{
		"Check":  failed(lot.Check(g)),
		"Alike":  listAnswer(lot.Alike(g)),
		"Depth":  valueAnswer(lot.Depth(g)),
		"Tree":   listAnswer(lot.Tree(g)),
		"Total":  valueAnswer(lot.Total(g, a.counts)),
		"Counts": listAnswer(lot.Counts(g, a.pieces, a.went)),
	}
}

// TestGaugesFirst is for P11.1, P1 and R2: the errors of gauges come before all others, and with them the results are zero.
func TestGaugesFirst(t *testing.T) {
	for want, l := range badGauges() {
		for _, g := range l {
			for _, a := range append(wrongAsked(), usual(g), usual(example()), usual(wide())) {
				for name, got := range gaugeAnswers(g, a) {
					if got != failed(want) {
						t.Error(name, g, a, got, want)
					}
				}
			}
		}
	}
	for _, g := range goodGauges() {
		for name, got := range gaugeAnswers(g, usual(g)) {
			if got.e != api.OK && got != failed(api.ErrNone) && !(name == "Total" && got == failed(api.ErrState)) {
				t.Error(name, g, got)
			}
		}
		for i, a := range wrongAsked() {
			for _, name := range []string{"Total", "Counts"} {
				if got := gaugeAnswers(g, a)[name]; !got.zero || got.e == api.OK {
					t.Error(name, g, i, got)
				}
			}
		}
	}
}
