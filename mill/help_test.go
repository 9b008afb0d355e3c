package mill_test

import (
	"cmp"
	"math"
	"math/rand/v2"
	"slices"
	"testing"

	"acme/api"
	"acme/mill"
)

func rules(reduce, total int, dies ...int) api.MillRules {
	return api.MillRules{Dies: dies, Reduce: reduce, Total: total}
}

// example returns the rules of the chapter's example 1.
func example() api.MillRules { return rules(300, 500, 900, 800, 700, 600, 500) }

// manyDies returns so many dies, each one unit narrower than the one before.
func manyDies(count, first int) []int {
	var dies []int
	for number := range count {
		dies = append(dies, first-number)
	}
	return dies
}

// drawn returns draws to some diameters; one below 0 is annealed just before.
func drawn(diameters ...int) []api.MillDraw {
	var draws []api.MillDraw
	for _, to := range diameters {
		draws = append(draws, api.MillDraw{To: max(to, -to), Anneal: to < 0})
	}
	return draws
}

func part(wide, long int) api.MillPart { return api.MillPart{Wide: wide, Long: long} }

// screw returns the parts of the chapter's example 2.
func screw() []api.MillPart { return []api.MillPart{part(130, 60), part(80, 300)} }

// copies returns so many parts.
func copies(p api.MillPart, count int) []api.MillPart {
	return slices.Repeat([]api.MillPart{p}, count)
}

func span(low, high int) api.Span { return api.Span{Low: low, High: high} }

func just(n int) api.Span { return span(n, n) }

func run(machine, from, to, coil, die int) api.MillRun {
	return api.MillRun{Machine: machine, From: from, To: to, Coil: coil, Die: die}
}

func lot(machine, from, to int) api.MillLot {
	return api.MillLot{Machine: machine, From: from, To: to}
}

// works returns the runs of the chapter's example 4.
func works() []api.MillRun {
	return []api.MillRun{run(1, 0, 9, 5, 2), run(1, 10, 19, 6, 2), run(2, 0, 19, 6, 3)}
}

// shifts returns so many runs, one behind the other, each of so many hours, with coils and dies of their own.
func shifts(count, hours int) []api.MillRun {
	var l []api.MillRun
	for number := range count {
		l = append(l, run(1, number*hours, number*hours+hours-1, number, number))
	}
	return l
}

func coil(number int) api.MillCause { return api.MillCause{Kind: api.MillCoil, Number: number} }

func die(number int) api.MillCause { return api.MillCause{Kind: api.MillDie, Number: number} }

func hour(machine, number int) api.MillCause {
	return api.MillCause{Kind: api.MillHour, Machine: machine, Number: number}
}

// hours returns hours of a machine as causes.
func hours(machine, from, to int) []api.MillCause {
	var l []api.MillCause
	for number := from; number <= to; number++ {
		l = append(l, hour(machine, number))
	}
	return l
}

// extremes are numbers for which careless arithmetic does not fit.
func extremes() []int {
	return []int{math.MinInt, math.MinInt + 1, -1 << 40, -1, 0, 1, 1 << 40, math.MaxInt - 1, math.MaxInt}
}

// outside returns numbers that are not from low to high.
func outside(low, high int) []int {
	l := []int{low - 1, high + 1}
	for _, n := range extremes() {
		if n < low || n > high {
			l = append(l, n)
		}
	}
	return l
}

// dice returns a source of the same numbers each time.
func dice() *rand.Rand { return rand.New(rand.NewPCG(12, 13)) }

// anyRules returns rules with up to so many dies, which lie near one another or anyhow.
func anyRules(r *rand.Rand, most int) api.MillRules {
	l := rules(1+r.IntN(999), 1+r.IntN(999))
	if r.IntN(2) == 0 {
		l = rules(150+r.IntN(300), 150+r.IntN(500))
	}
	wide, least := []int{12, 30, 1000, api.MaxMillWire}[r.IntN(4)], 80*r.IntN(2)
	for count := 1 + r.IntN(most); count > 0 && wide > 1; count-- {
		wide = max(1, min(wide-1, wide*(least+r.IntN(100-least))/100))
		l.Dies = append(l.Dies, wide)
	}
	return l
}

// anyWire returns diameters from and to which wire might be drawn.
func anyWire(r *rand.Rand, l api.MillRules) (from, to int) {
	from = min(l.Dies[0]+r.IntN(l.Dies[0]/4+2), api.MaxMillWire)
	if r.IntN(4) == 0 {
		from = l.Dies[r.IntN(len(l.Dies))]
	}
	return from, l.Dies[len(l.Dies)-1-r.IntN((len(l.Dies)+1)/2)]
}

// anyWorks returns runs of few machines, coils, dies and hours.
func anyWorks(r *rand.Rand) []api.MillRun {
	var l []api.MillRun
	for machine := range 3 {
		at := r.IntN(3)
		for at < 12 && r.IntN(6) > 0 {
			to := at + r.IntN(5)
			l = append(l, run(machine, at, to, r.IntN(4), r.IntN(3)))
			at = to + 1 + r.IntN(2)*r.IntN(3)
		}
	}
	r.Shuffle(len(l), func(i, k int) { l[i], l[k] = l[k], l[i] })
	return l
}

// anyLots returns up to so many lots of such works.
func anyLots(r *rand.Rand, most int) []api.MillLot {
	var l []api.MillLot
	for range r.IntN(most + 1) {
		at := r.IntN(16)
		l = append(l, lot(r.IntN(4), at, at+r.IntN(1+r.IntN(8))))
	}
	return l
}

// allCauses returns all causes that there can be in such works, and some more, in order.
func allCauses() []api.MillCause {
	var l []api.MillCause
	for number := range 6 {
		l = append(l, coil(number))
	}
	for number := range 5 {
		l = append(l, die(number))
	}
	for machine := range 4 {
		l = append(l, hours(machine, 0, 24)...)
	}
	return l
}

// has reports by the chapter's words, hour by hour, whether a lot has a cause.
func has(l []api.MillRun, made api.MillLot, c api.MillCause) bool {
	for at := made.From; at <= made.To; at++ {
		for _, r := range l {
			if r.Machine == made.Machine && r.From <= at && at <= r.To && slices.Contains([]api.MillCause{coil(r.Coil), die(r.Die), hour(r.Machine, at)}, c) {
				return true
			}
		}
	}
	return false
}

// culprits returns by the chapter's words all causes that all bad lots have and no good one.
func culprits(l []api.MillRun, bad, good []api.MillLot) []api.MillCause {
	var blamed []api.MillCause
	for _, c := range allCauses() {
		hasIt := func(made api.MillLot) bool { return has(l, made, c) }
		hasNot := func(made api.MillLot) bool { return !has(l, made, c) }
		if !slices.ContainsFunc(bad, hasNot) && !slices.ContainsFunc(good, hasIt) {
			blamed = append(blamed, c)
		}
	}
	return blamed
}

// isAllowed reports by the chapter's words whether draws of wire are allowed, one after the other.
func isAllowed(r api.MillRules, from int, draws []api.MillDraw) bool {
	annealed := from
	for _, d := range draws {
		if d.Anneal {
			annealed = from
		}
		if d.To >= from || !slices.Contains(r.Dies, d.To) || (from*from-d.To*d.To)*1000 > r.Reduce*from*from || (annealed*annealed-d.To*d.To)*1000 > r.Total*annealed*annealed {
			return false
		}
		from = d.To
	}
	return true
}

// annealings returns how often wire is annealed.
func annealings(draws []api.MillDraw) int {
	count := 0
	for _, d := range draws {
		if d.Anneal {
			count++
		}
	}
	return count
}

// compareDraws compares lists of draws as Draws chooses among them: the better one is smaller.
func compareDraws(a, b []api.MillDraw) int {
	byDraw := func(a, b api.MillDraw) int {
		annealed := map[bool]int{true: 1}
		return cmp.Or(cmp.Compare(a.To, b.To), cmp.Compare(annealed[a.Anneal], annealed[b.Anneal]))
	}
	return cmp.Or(cmp.Compare(annealings(a), annealings(b)), cmp.Compare(len(a), len(b)), slices.CompareFunc(a, b, byDraw))
}

// drawsOf returns draws that must be there.
func drawsOf(t *testing.T, r api.MillRules, from, to int) []api.MillDraw {
	t.Helper()
	draws, e := mill.Draws(r, from, to)
	if e != api.OK {
		t.Fatal(r, from, to, e)
	}
	return draws
}

// usedCoils returns how many coils a list uses.
func usedCoils(shared []int) int {
	used := map[int]bool{}
	for _, number := range shared {
		used[number] = true
	}
	return len(used)
}

// isShared reports by the chapter's words whether no coil is used for more than it is long.
func isShared(coils, needs, shared []int) bool {
	left := slices.Clone(coils)
	for order, number := range shared {
		left[number] -= needs[order]
	}
	return len(shared) == len(needs) && (len(left) == 0 || slices.Min(left) >= 0)
}

// culpritsOf returns culprits of lots that are right.
func culpritsOf(t *testing.T, l []api.MillRun, bad, good []api.MillLot) []api.MillCause {
	t.Helper()
	blamed, e := mill.Culprits(l, bad, good)
	if e != api.OK {
		t.Fatal(l, bad, good, e)
	}
	return blamed
}
