package die_test

import (
	"math"
	"math/rand/v2"
	"slices"

	"acme/api"
)

// job is a tool and the orders that it cuts.
type job struct {
	tool   api.DieTool
	orders []api.DieOrder
}

// change is a change of a job.
type change = func(j *job)

// example returns the die and the orders of the chapter's examples, changed.
func example(changes ...change) job {
	zone := span(100000, 110000)
	j := job{
		api.DieTool{Set: span(-1000, 1000), Scatter: span(-500, 500), Wears: []api.Span{span(10, 20), span(50, 100)}},
		[]api.DieOrder{{Pieces: 200, Steel: 0, Zone: zone}, {Pieces: 100, Steel: 1, Zone: zone}},
	}
	for _, c := range changes {
		c(&j)
	}
	return j
}

// tap returns the tap that is the die of the examples, turned round, changed.
func tap(changes ...change) job {
	j := turnedRound(example())
	for _, c := range changes {
		c(&j)
	}
	return j
}

func span(low, high int) api.Span { return api.Span{Low: low, High: high} }

func just(n int) api.Span { return span(n, n) }

func set(s api.Span) change { return func(j *job) { j.tool.Set = s } }

func scatter(s api.Span) change { return func(j *job) { j.tool.Scatter = s } }

func wears(l ...api.Span) change { return func(j *job) { j.tool.Wears = l } }

// zone gives all orders a zone.
func zone(s api.Span) change {
	return func(j *job) {
		for i := range j.orders {
			j.orders[i].Zone = s
		}
	}
}

// orders returns a change to orders by Pieces, Steel and the ends of Zone, in turn.
func orders(numbers ...int) change {
	return func(j *job) {
		j.orders = nil
		for n := range slices.Chunk(numbers, 4) {
			j.orders = append(j.orders, api.DieOrder{Pieces: n[0], Steel: n[1], Zone: span(n[2], n[3])})
		}
	}
}

// manyOrders repeats the first order.
func manyOrders(count int) change {
	return func(j *job) { j.orders = slices.Repeat(j.orders[:1], count) }
}

// plan returns settings by From and Target, in turn.
func plan(numbers ...int) []api.DieSetting {
	var l []api.DieSetting
	for pair := range slices.Chunk(numbers, 2) {
		l = append(l, api.DieSetting{From: pair[0], Target: pair[1]})
	}
	return l
}

// froms returns before which pieces the settings of a plan are.
func froms(l []api.DieSetting) []int {
	var numbers []int
	for _, s := range l {
		numbers = append(numbers, s.From)
	}
	return numbers
}

// upTo returns as many numbers, from 0 on.
func upTo(count int) []int {
	var l []int
	for n := range count {
		l = append(l, n)
	}
	return l
}

// everyPiece returns a plan that sets a tool before each of the first pieces.
func everyPiece(count, target int) []api.DieSetting {
	var l []api.DieSetting
	for from := range count {
		l = append(l, api.DieSetting{From: from, Target: target})
	}
	return l
}

// extremes are numbers for which careless arithmetic does not fit.
func extremes() []int {
	return []int{math.MinInt, math.MinInt + 1, -1 << 40, -1, 0, 1, 1 << 40, math.MaxInt - 1, math.MaxInt}
}

// outside returns numbers that are not from low to high.
func outside(low, high int) []int {
	l := []int{low - 1, high + 1}
	for _, n := range extremes() {
		if n < low || n > high {
			l = append(l, n)
		}
	}
	return l
}

// badSpans returns spans that are not valid from low to high.
func badSpans(low, high int) []api.Span {
	l := []api.Span{span(low+1, low), span(high, high-1), span(high, low)}
	for _, n := range outside(low, high) {
		l = append(l, span(n, low), span(n, high), span(low, n), span(high, n), just(n))
	}
	return l
}

// copyOf returns a job that shares no memory.
func copyOf(j job) job {
	j.tool.Wears, j.orders = slices.Clone(j.tool.Wears), slices.Clone(j.orders)
	return j
}

// piecesOf returns the number of all pieces.
func piecesOf(j job) int {
	n := 0
	for _, order := range j.orders {
		n += order.Pieces
	}
	return n
}

// orderOf returns the order of which a piece is.
func orderOf(j job, piece int) api.DieOrder {
	for _, order := range j.orders {
		if piece < order.Pieces {
			return order
		}
		piece -= order.Pieces
	}
	return api.DieOrder{}
}

// negative returns the integers of a span, turned round 0.
func negative(s api.Span) api.Span { return span(-s.High, -s.Low) }

// turned returns the lengths of a span, turned round.
func turned(s api.Span) api.Span { return span(api.MaxDieAt-s.High, api.MaxDieAt-s.Low) }

// turnedRound returns the job of a tap for that of a die, and of a die for that of a tap.
func turnedRound(j job) job {
	j = copyOf(j)
	j.tool.Down, j.tool.Set, j.tool.Scatter = !j.tool.Down, negative(j.tool.Set), negative(j.tool.Scatter)
	for i, order := range j.orders {
		j.orders[i].Zone = turned(order.Zone)
	}
	return j
}

// turnedPlan returns settings to targets that are turned round.
func turnedPlan(l []api.DieSetting) []api.DieSetting {
	l = slices.Clone(l)
	for i := range l {
		l[i].Target = api.MaxDieAt - l[i].Target
	}
	return l
}

// dice returns a source of the same numbers each time.
func dice() *rand.Rand { return rand.New(rand.NewPCG(7, 15)) }

// within returns an integer of a span.
func within(r *rand.Rand, s api.Span) int { return s.Low + r.IntN(s.High-s.Low+1) }

// part returns a span that lies within another one.
func part(r *rand.Rand, s api.Span) api.Span {
	low := within(r, s)
	return span(low, within(r, span(low, s.High)))
}

// anyJob returns a job of few truths and few pieces, whose zones are near to one another, some of them too narrow; and the targets that can be right.
func anyJob(r *rand.Rand) (job, api.Span) {
	base := []int{0, 100, api.MaxDieAt - 40}[r.IntN(3)]
	wide := []int{1, 3}[r.IntN(2)]
	j := job{tool: api.DieTool{Down: r.IntN(2) == 0, Set: part(r, span(-wide, wide)), Scatter: part(r, span(-wide, wide))}}
	for range 1 + r.IntN(3) {
		j.tool.Wears = append(j.tool.Wears, part(r, span(0, 3)))
	}
	for range 1 + r.IntN(4) {
		low := base + r.IntN(10)
		j.orders = append(j.orders, api.DieOrder{Pieces: 1 + r.IntN(4), Steel: r.IntN(len(j.tool.Wears)), Zone: span(low, low+r.IntN(31))})
	}
	return j, span(base-10, base+50)
}

// wideJob returns a job of many pieces and of more truths than a search could go through; all pieces can be sure.
func wideJob(r *rand.Rand) job {
	most := []int{10, 1000, api.MaxDieError}[r.IntN(3)]
	j := job{tool: api.DieTool{Down: r.IntN(2) == 0, Set: part(r, span(-most, most)), Scatter: part(r, span(-most, most))}}
	for range 1 + r.IntN(api.MaxDieSteels) {
		j.tool.Wears = append(j.tool.Wears, part(r, span(0, []int{3, 100, api.MaxDieWear}[r.IntN(3)])))
	}
	for range 1 + r.IntN(api.MaxDieOrders) {
		low := []int{0, r.IntN(20 * most), api.MaxDieAt - 100*most}[r.IntN(3)]
		pieces := 1 + r.IntN([]int{5, 300, api.MaxDiePieces}[r.IntN(3)])
		j.orders = append(j.orders, api.DieOrder{Pieces: pieces, Steel: r.IntN(len(j.tool.Wears)), Zone: span(low, low+(4+r.IntN(96))*most)})
	}
	return j
}

// after returns all sizes of a tool after one piece, in any truth: the chapter's "What can happen".
func after(t api.DieTool, sizes map[int]bool, steel int) map[int]bool {
	next := map[int]bool{}
	for size := range sizes {
		for by := t.Wears[steel].Low; by <= t.Wears[steel].High; by++ {
			if t.Down {
				next[size-by] = true
			} else {
				next[size+by] = true
			}
		}
	}
	return next
}

// each returns the integers of a span.
func each(s api.Span) map[int]bool {
	all := map[int]bool{}
	for n := s.Low; n <= s.High; n++ {
		all[n] = true
	}
	return all
}

// sums returns the least and the greatest sum of an integer of a set and one of a span.
func sums(numbers map[int]bool, s api.Span) api.Span {
	found := span(math.MaxInt, math.MinInt)
	for n := range numbers {
		for by := s.Low; by <= s.High; by++ {
			found = span(min(found.Low, n+by), max(found.High, n+by))
		}
	}
	return found
}

// diameters returns, for the pieces from one on, the least and the greatest diameter that one can have if the tool is set to 0 before the first of them: all truths are gone through.
func diameters(j job, from int) []api.Span {
	var l []api.Span
	sizes := each(j.tool.Set)
	for piece := from; piece < piecesOf(j); piece++ {
		l = append(l, sums(sizes, j.tool.Scatter))
		sizes = after(j.tool, sizes, orderOf(j, piece).Steel)
	}
	return l
}

// search is what is found of a job by going through all its truths, and all targets that can be right.
type search struct {
	job
	pieces int
	from   [][]api.Span // what diameters returns, for each piece
	all    api.Span
}

func searchOf(j job, targets api.Span) search {
	s := search{job: j, pieces: piecesOf(j), all: targets}
	for from := range s.pieces {
		s.from = append(s.from, diameters(j, from))
	}
	return s
}

// sure reports whether a piece is sure with a setting.
func (s search) sure(setting api.DieSetting, piece int) bool {
	zone, d := orderOf(s.job, piece).Zone, s.from[setting.From][piece-setting.From]
	return zone.Low <= setting.Target+d.Low && setting.Target+d.High <= zone.High
}

// targets returns the targets with which the pieces from `from` to to - 1 are sure, in ascending order.
func (s search) targets(from, to int) []int {
	var l []int
	for target := s.all.Low; target <= s.all.High; target++ {
		right := true
		for piece := from; piece < to && right; piece++ {
			right = s.sure(api.DieSetting{From: from, Target: target}, piece)
		}
		if right {
			l = append(l, target)
		}
	}
	return l
}

// reach returns the greatest `to` for which there is a target.
func (s search) reach(from int) int {
	for to := s.pieces; to > from; to-- {
		if len(s.targets(from, to)) > 0 {
			return to
		}
	}
	return from
}

// most returns, for each number of settings up to one, how many pieces can be sure: whatever pieces the settings are before.
func (s search) most(settings int) []int {
	reach := make([]int, s.pieces)
	for from := range reach {
		reach[from] = s.reach(from)
	}
	done := map[int]bool{0: true} // how many pieces just so many settings can make sure
	l := []int{0}
	for range settings {
		next := map[int]bool{}
		for from := range done {
			next[from] = true
			for to := from; from < s.pieces && to <= reach[from]; to++ {
				next[to] = true
			}
		}
		done = next
		most := 0
		for n := range done {
			most = max(most, n)
		}
		l = append(l, most)
	}
	return l
}

// judge returns the first piece that is not sure with a plan.
func (s search) judge(l []api.DieSetting) int {
	for piece := range s.pieces {
		var last []api.DieSetting
		for _, setting := range l {
			if setting.From <= piece {
				last = []api.DieSetting{setting}
			}
		}
		if len(last) == 0 || !s.sure(last[0], piece) {
			return piece
		}
	}
	return s.pieces
}
