package lead_test

import (
	"math"
	"math/rand/v2"
	"slices"

	"acme/api"
)

// job is a screw and the notches of its corrector.
type job struct {
	screw   api.LeadScrew
	notches []api.LeadNotch
}

// change is a change of a job.
type change = func(j *job)

// example returns the screw of the chapter's examples, without notches, changed.
func example(changes ...change) job {
	j := job{screw: api.LeadScrew{Turns: []api.Span{just(0), span(10, 12), span(-4, 0)}, Drunk: []int{0, 3, 0, -3}, Lash: span(5, 8)}}
	for _, c := range changes {
		c(&j)
	}
	return j
}

func span(low, high int) api.Span { return api.Span{Low: low, High: high} }

func just(n int) api.Span { return span(n, n) }

func turns(l ...api.Span) change { return func(j *job) { j.screw.Turns = l } }

func drunk(l ...int) change { return func(j *job) { j.screw.Drunk = l } }

func lash(s api.Span) change { return func(j *job) { j.screw.Lash = s } }

// notches returns notches by From and Add, in turn.
func notches(numbers ...int) []api.LeadNotch {
	var l []api.LeadNotch
	for pair := range slices.Chunk(numbers, 2) {
		l = append(l, api.LeadNotch{From: pair[0], Add: pair[1]})
	}
	return l
}

func notched(numbers ...int) change { return func(j *job) { j.notches = notches(numbers...) } }

// exactTurns returns turns whose errors are known.
func exactTurns(errors ...int) change {
	return func(j *job) {
		j.screw.Turns = nil
		for _, n := range errors {
			j.screw.Turns = append(j.screw.Turns, just(n))
		}
	}
}

// long makes a screw of as many turns and angles, all of whose errors are 0.
func long(turns, angles int) change {
	return func(j *job) {
		j.screw.Turns, j.screw.Drunk = make([]api.Span, turns), make([]int, angles)
	}
}

// manyNotches makes as many notches, from each step on.
func manyNotches(count int) change {
	return func(j *job) {
		j.notches = nil
		for from := range count {
			j.notches = append(j.notches, api.LeadNotch{From: from, Add: 1 + from%7})
		}
	}
}

// extremes are numbers for which careless arithmetic does not fit.
func extremes() []int {
	return []int{math.MinInt, math.MinInt + 1, -1 << 40, -1, 0, 1, 1 << 40, math.MaxInt - 1, math.MaxInt}
}

// outside returns numbers that are not from low to high.
func outside(low, high int) []int {
	l := []int{low - 1, high + 1}
	for _, n := range extremes() {
		if n < low || n > high {
			l = append(l, n)
		}
	}
	return l
}

// badSpans returns spans that are not valid from low to high.
func badSpans(low, high int) []api.Span {
	l := []api.Span{span(low+1, low), span(high, high-1), span(high, low)}
	for _, n := range outside(low, high) {
		l = append(l, span(n, low), span(n, high), span(low, n), span(high, n), just(n))
	}
	return l
}

// copyOf returns a job that shares no memory.
func copyOf(j job) job {
	j.screw.Turns, j.screw.Drunk, j.notches = slices.Clone(j.screw.Turns), slices.Clone(j.screw.Drunk), slices.Clone(j.notches)
	return j
}

// dice returns a source of the same numbers each time.
func dice() *rand.Rand { return rand.New(rand.NewPCG(6, 13)) }

// within returns an integer of a span.
func within(r *rand.Rand, s api.Span) int { return s.Low + r.IntN(s.High-s.Low+1) }

// part returns a span that lies within another one.
func part(r *rand.Rand, s api.Span) api.Span {
	low := within(r, s)
	return span(low, within(r, span(low, s.High)))
}

// anyJob returns a screw of few truths and some notches.
func anyJob(r *rand.Rand) job {
	j := job{screw: api.LeadScrew{Drunk: []int{0}, Lash: part(r, span(0, 3))}}
	for range 2 + r.IntN(3) {
		low := within(r, span(-9, 9))
		j.screw.Turns = append(j.screw.Turns, span(low, low+r.IntN(3)))
	}
	for range r.IntN(5) {
		j.screw.Drunk = append(j.screw.Drunk, within(r, span(-6, 6)))
	}
	j.notches = anyNotches(r, last(j), span(-8, 8))
	return j
}

// wideJob returns a screw of more truths than a search could go through, and notches.
func wideJob(r *rand.Rand) job {
	all := span(-api.MaxLeadError, api.MaxLeadError)
	j := job{screw: api.LeadScrew{Drunk: []int{0}, Lash: part(r, span(0, api.MaxLeadError))}}
	for range 2 + r.IntN(30) {
		j.screw.Turns = append(j.screw.Turns, part(r, all))
	}
	for range r.IntN(api.MaxLeadAngles) {
		j.screw.Drunk = append(j.screw.Drunk, within(r, all))
	}
	j.notches = anyNotches(r, last(j), span(-api.MaxLeadCut, api.MaxLeadCut))
	return j
}

// anyNotches returns a few notches at steps up to the last one.
func anyNotches(r *rand.Rand, last int, add api.Span) []api.LeadNotch {
	var l []api.LeadNotch
	for from := r.IntN(last + 2); from <= last; from += 1 + r.IntN(last+1) {
		l = append(l, api.LeadNotch{From: from, Add: within(r, add)})
	}
	return l
}

// anyWay returns a way that often stays, or comes back.
func anyWay(r *rand.Rand, last, length int) []int {
	var way []int
	for i := range length {
		if i > 0 && r.IntN(4) == 0 {
			way = append(way, way[i-1])
			continue
		}
		way = append(way, r.IntN(last+1))
	}
	return way
}

// last returns the last step.
func last(j job) int { return (len(j.screw.Turns) - 1) * len(j.screw.Drunk) }

// truth is what the turns and the backlash truly are.
type truth struct {
	turns []int
	lash  int
}

// allTruths yields all truths of a screw.
func allTruths(s api.LeadScrew) func(yield func(truth) bool) {
	return func(yield func(truth) bool) {
		t := truth{turns: make([]int, len(s.Turns))}
		var each func(turn int) bool
		each = func(turn int) bool {
			if turn == len(s.Turns) {
				for t.lash = s.Lash.Low; t.lash <= s.Lash.High; t.lash++ {
					if !yield(t) {
						return false
					}
				}
				return true
			}
			for n := s.Turns[turn].Low; n <= s.Turns[turn].High; n++ {
				t.turns[turn] = n
				if !each(turn + 1) {
					return false
				}
			}
			return true
		}
		each(0)
	}
}

// anyTruth returns one truth, often one at the ends of spans.
func anyTruth(r *rand.Rand, s api.LeadScrew) truth {
	one := func(s api.Span) int {
		return []int{s.Low, s.High, within(r, s)}[r.IntN(3)]
	}
	t := truth{lash: one(s.Lash)}
	for _, turn := range s.Turns {
		t.turns = append(t.turns, one(turn))
	}
	return t
}

// narrowed returns a job all of whose spans are narrowed to a truth.
func narrowed(j job, t truth) job {
	j = copyOf(j)
	for i, n := range t.turns {
		j.screw.Turns[i] = just(n)
	}
	j.screw.Lash = just(t.lash)
	return j
}

// errorIn computes the error at a step in a truth, times the number of angles: the chapter's section Types.
func errorIn(j job, t truth, step int, above bool) int {
	m := len(j.screw.Drunk)
	i, k := step/m, step%m
	units := j.screw.Drunk[k]
	for _, notch := range slices.Backward(j.notches) {
		if notch.From <= step {
			units += notch.Add
			break
		}
	}
	if above {
		units += t.lash
	}
	if step == last(j) {
		return m * (units + t.turns[i])
	}
	return m*(units+t.turns[i]) + (t.turns[i+1]-t.turns[i])*k
}

// distancesIn computes the errors of the distances of a way in a truth, times the number of angles.
func distancesIn(j job, t truth, way []int) []int {
	var l []int
	above := false
	for i := 1; i < len(way); i++ {
		before := errorIn(j, t, way[i-1], above)
		if way[i] > way[i-1] {
			above = false
		} else if way[i] < way[i-1] {
			above = true
		}
		l = append(l, errorIn(j, t, way[i], above)-before)
	}
	return l
}

// floor returns a / b, rounded down.
func floor(a, b int) int {
	for n := a / b; ; n-- {
		if n*b <= a {
			return n
		}
	}
}

// outward returns a span of parts in whole units.
func outward(j job, s api.Span) api.Span {
	m := len(j.screw.Drunk)
	return span(floor(s.Low, m), -floor(-s.High, m))
}

// grown returns a span that has a further integer, or just this one.
func grown(s api.Span, first bool, n int) api.Span {
	if first {
		return just(n)
	}
	return span(min(s.Low, n), max(s.High, n))
}
