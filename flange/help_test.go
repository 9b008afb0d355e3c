package flange_test

import (
	"math"
	"math/rand/v2"
	"slices"
	"testing"

	"acme/api"
	"acme/flange"
)

// change is a change of a flange.
type change = func(r *api.FlangeRules)

// example returns the flange of the chapter's examples, changed.
func example(changes ...change) api.FlangeRules {
	k := api.BoltKind{
		Lead: 2000, Thread: 5000, Head: 7000, OnThread: span(100, 160), OnHead: span(120, 150),
		Stiff: span(50000, 60000), Spring: span(90, 110), Yield: span(30000, 33000),
	}
	r := api.FlangeRules{Bolts: 4, Kind: k, Share: []int{200, 100}, Need: 15000}
	for _, c := range changes {
		c(&r)
	}
	return r
}

func need(n int) change            { return func(r *api.FlangeRules) { r.Need = n } }
func kind(k api.BoltKind) change   { return func(r *api.FlangeRules) { r.Kind = k } }
func yields(s api.Span) change     { return func(r *api.FlangeRules) { r.Kind.Yield = s } }
func bolts(n int) change           { return func(r *api.FlangeRules) { r.Bolts = n } }
func shares(all ...int) change     { return func(r *api.FlangeRules) { r.Share = all } }
func even(count, share int) change { return around(count, slices.Repeat([]int{share}, count/2)...) }

// around gives a flange so many bolts, and the shares of their distances.
func around(count int, all ...int) change {
	return func(r *api.FlangeRules) { r.Bolts, r.Share = count, all }
}

// spread returns a kind of bolt whose arm is 1000 to 1000 + by: a torque q gives the forces from 1000 * q / (1000 + by) to q.
func spread(by int) api.BoltKind {
	return api.BoltKind{Lead: 1, Thread: 1, OnThread: span(0, by), Stiff: just(1), Spring: just(1), Yield: just(api.MaxBoltForce)}
}

// plain makes the force of each bolt the same as its torque.
func plain() change { return kind(spread(0)) }

// halved makes the force of each bolt the same as its torque, or down to half of it.
func halved() change { return kind(spread(1000)) }

// heavy makes the greatest torque one that may be: it gives the force 33333333.
func heavy() change {
	k := spread(0)
	k.Lead, k.Thread, k.Head, k.OnThread, k.OnHead = 100000, 100000, 100000, just(1000), just(1000)
	return kind(k)
}

func span(low, high int) api.Span { return api.Span{Low: low, High: high} }

func just(n int) api.Span { return span(n, n) }

// plan returns steps on bolts with one torque.
func plan(torque int, numbers ...int) []api.FlangeStep {
	var steps []api.FlangeStep
	for _, number := range numbers {
		steps = append(steps, api.FlangeStep{Bolt: number, Torque: torque})
	}
	return steps
}

// upTo returns the numbers from 0 to count - 1.
func upTo(count int) []int {
	var numbers []int
	for number := range count {
		numbers = append(numbers, number)
	}
	return numbers
}

// extremes are numbers for which careless arithmetic does not fit.
func extremes() []int {
	return []int{math.MinInt, math.MinInt + 1, -1 << 40, -1, 0, 1, 1 << 40, math.MaxInt - 1, math.MaxInt}
}

// outside returns numbers that are not from low to high.
func outside(low, high int) []int {
	l := []int{low - 1, high + 1}
	for _, n := range extremes() {
		if n < low || n > high {
			l = append(l, n)
		}
	}
	return l
}

// badSpans returns spans that are not valid from low to high.
func badSpans(low, high int) []api.Span {
	l := []api.Span{span(low+1, low), span(high, high-1), span(high, low)}
	for _, n := range outside(low, high) {
		l = append(l, span(n, low), span(n, high), span(low, n), span(high, n), just(n))
	}
	return l
}

// distance returns how many places two bolts are apart, by going around both ways.
func distance(r api.FlangeRules, a, b int) int {
	apart := 0
	for (a+apart)%r.Bolts != b && (b+apart)%r.Bolts != a {
		apart++
	}
	return apart
}

// aloneOf returns which force a torque gives a bolt: the formula of chapter 9.
func aloneOf(r api.FlangeRules, torque int) api.Span {
	arm := func(onThread, onHead int) int {
		return 1000*r.Kind.Lead + r.Kind.Thread*onThread + r.Kind.Head*onHead
	}
	return span(1000*torque/arm(r.Kind.OnThread.High, r.Kind.OnHead.High), 1000*torque/arm(r.Kind.OnThread.Low, r.Kind.OnHead.Low))
}

// lossOf returns how much a bolt loses by a step on another one that has some force before it.
func lossOf(r api.FlangeRules, other int, s api.FlangeStep, had api.Span) api.Span {
	alone, share := aloneOf(r, s.Torque), r.Share[distance(r, other, s.Bolt)-1]
	return span(max(alone.Low-had.High, 0)*share/1000, (max(alone.High-had.Low, 0)*share+999)/1000)
}

// greatest returns the greatest of some forces.
func greatest(forces []api.Span) int {
	most := 0
	for _, force := range forces {
		most = max(most, force.High)
	}
	return most
}

// followed returns a flange after steps, which may be more than a plan may have: Tighten says what each of them does.
func followed(t *testing.T, r api.FlangeRules, steps ...api.FlangeStep) api.FlangeNow {
	t.Helper()
	now := api.FlangeNow{Forces: make([]api.Span, r.Bolts), Lost: make([]api.Span, r.Bolts)}
	for _, s := range steps {
		for other := range r.Bolts {
			if other == s.Bolt {
				now.Lost[other] = just(0)
				continue
			}
			loss := lossOf(r, other, s, now.Forces[s.Bolt])
			now.Lost[other] = span(now.Lost[other].Low+loss.Low, now.Lost[other].High+loss.High)
		}
		forces, e := flange.Tighten(r, now.Forces, s)
		if e != api.OK || len(forces) != r.Bolts {
			t.Fatal(r, now, s, forces, e)
		}
		now.Forces, now.Most = forces, max(now.Most, greatest(forces))
	}
	return now
}

// isRight reports whether a flange is tight, and its plan is safe.
func isRight(r api.FlangeRules, now api.FlangeNow) bool {
	loose := func(force api.Span) bool { return force.Low < r.Need }
	return !slices.ContainsFunc(now.Forces, loose) && now.Most <= r.Kind.Yield.Low
}

// lists returns all lists of so many of the numbers from 0 to below - 1, in ascending order.
func lists(count, below int) [][]int {
	all := [][]int{nil}
	for range count {
		var longer [][]int
		for _, l := range all {
			for n := range below {
				longer = append(longer, append(slices.Clone(l), n))
			}
		}
		all = longer
	}
	return all
}

// isOrder reports whether no number of a list is in it twice.
func isOrder(l []int) bool {
	sorted := slices.Sorted(slices.Values(l))
	return len(slices.Compact(sorted)) == len(l)
}

// ordersFrom0 returns all orders that begin with the bolt 0, in ascending order.
func ordersFrom0(count int) [][]int {
	var orders [][]int
	for _, l := range lists(count-1, count) {
		if order := append([]int{0}, l...); isOrder(order) {
			orders = append(orders, order)
		}
	}
	return orders
}

// dice returns a source of the same numbers each time.
func dice() *rand.Rand { return rand.New(rand.NewPCG(10, 13)) }

// within returns an integer of a span.
func within(r *rand.Rand, s api.Span) int { return s.Low + r.IntN(s.High-s.Low+1) }

// part returns a span that lies within another one.
func part(r *rand.Rand, s api.Span) api.Span {
	low := within(r, s)
	return span(low, within(r, span(low, s.High)))
}

// anyKind returns a kind of bolt whose force is about a thousandth of its torque, or more of it, and not quite known.
func anyKind(r *rand.Rand) api.BoltKind {
	k := spread(0)
	k.Lead, k.Thread, k.Head = 1+r.IntN(1000), r.IntN(1000), r.IntN(1000)
	wide := []int{0, 0, 5, 50, 1000}[r.IntN(5)]
	k.OnThread, k.OnHead = part(r, span(0, wide)), part(r, span(0, wide))
	return k
}

// anyRules returns a flange with so many bolts, at most.
func anyRules(r *rand.Rand, most int) api.FlangeRules {
	rules := api.FlangeRules{Bolts: 3 + r.IntN(most-2), Kind: anyKind(r)}
	share := []int{0, 10, 100, 200, 300, 500}[r.IntN(6)]
	for range rules.Bolts / 2 {
		rules.Share = append(rules.Share, r.IntN(share+1))
	}
	return rules
}

// anyTorque returns a torque that each bolt of anyKind can have.
func anyTorque(r *rand.Rand) int {
	return r.IntN([]int{1000, 100000, 10000000, 90000000}[r.IntN(4)])
}

// anyPlan returns some steps, with torques that are not far from one another.
func anyPlan(r *rand.Rand, rules api.FlangeRules, most int) []api.FlangeStep {
	torque := anyTorque(r)
	var steps []api.FlangeStep
	for range r.IntN(most + 1) {
		steps = append(steps, api.FlangeStep{Bolt: r.IntN(rules.Bolts), Torque: torque/2 + r.IntN(torque/2+1)})
	}
	return steps
}

// wanting gives a flange a force that its bolts need, which they have, or just not, after some rounds with a torque in any order; and a yield that is about the greatest force, or far above it.
func wanting(t *testing.T, r *rand.Rand, rules api.FlangeRules, torque int) api.FlangeRules {
	rounds := slices.Repeat(r.Perm(rules.Bolts), 1+r.IntN(5))
	rules.Need = smallest(followed(t, rules, plan(torque, rounds...)...).Forces) + r.IntN(2)
	if r.IntN(4) == 0 {
		rules.Kind.Yield = just(max(aloneOf(rules, torque).High-1+r.IntN(3), 1))
	}
	return rules
}

// smallest returns the smallest Low of some forces.
func smallest(forces []api.Span) int {
	low := func(a, b api.Span) int { return a.Low - b.Low }
	return slices.MinFunc(forces, low).Low
}
