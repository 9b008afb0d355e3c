package gauge_test

import (
	"math"
	"math/rand/v2"
	"slices"

	"acme/api"
)

// change is a change of rules.
type change = func(r *api.GaugeRules)

// example returns the plug of the chapter's examples, changed.
func example(changes ...change) api.GaugeRules {
	r := api.GaugeRules{New: span(5000, 5010), Wear: span(20, 50), Masters: []api.Span{span(4995, 4997), span(4980, 4980)}}
	for _, c := range changes {
		c(&r)
	}
	return r
}

// ring returns the ring that is the plug of the examples, turned round.
func ring(changes ...change) api.GaugeRules {
	r := turnedRound(example())
	for _, c := range changes {
		c(&r)
	}
	return r
}

func span(low, high int) api.Span { return api.Span{Low: low, High: high} }

// history is a list of events.
type history = []api.GaugeEvent

func tried(pieces int) api.GaugeEvent {
	return api.GaugeEvent{Pieces: pieces, Master: api.GaugeNone}
}

func goes(master int) api.GaugeEvent { return api.GaugeEvent{Master: master, Goes: true} }

func stays(master int) api.GaugeEvent { return api.GaugeEvent{Master: master} }

func events(l ...api.GaugeEvent) history { return l }

// and returns a history with further events, in new memory.
func and(l history, more ...api.GaugeEvent) history { return slices.Concat(l, more) }

// contradictory returns the history of the chapter's example 2.
func contradictory() history { return events(tried(200), goes(0), tried(100), stays(0)) }

// extremes are numbers for which careless arithmetic does not fit.
func extremes() []int {
	return []int{math.MinInt, math.MinInt + 1, -1 << 40, -1, 0, 1, 1 << 40, math.MaxInt - 1, math.MaxInt}
}

// badSpans returns spans that are not valid from 0 to a number.
func badSpans(high int) []api.Span {
	l := []api.Span{span(-1, high), span(0, high+1), span(-1, -1), span(high+1, high+1), span(1, 0), span(high, high-1), span(high, 0)}
	for _, n := range extremes() {
		if n < 0 || n > high {
			l = append(l, span(n, 0), span(n, high), span(0, n), span(high, n), span(n, n))
		}
	}
	return l
}

// badLimits returns numbers that are not from 0 to another one.
func badLimits(high int) []int {
	l := []int{-1, high + 1}
	for _, n := range extremes() {
		if n < 0 || n > high {
			l = append(l, n)
		}
	}
	return l
}

// copyOf returns rules that share no memory.
func copyOf(r api.GaugeRules) api.GaugeRules {
	r.Masters = slices.Clone(r.Masters)
	return r
}

func turnedSpan(s api.Span) api.Span {
	return span(api.MaxLength-s.High, api.MaxLength-s.Low)
}

// turnedRound returns the rules of a ring for those of a plug, and of a plug for those of a ring.
func turnedRound(r api.GaugeRules) api.GaugeRules {
	r = copyOf(r)
	r.Ring, r.New = !r.Ring, turnedSpan(r.New)
	for i, master := range r.Masters {
		r.Masters[i] = turnedSpan(master)
	}
	return r
}

// dice returns a source of the same numbers each time.
func dice() *rand.Rand { return rand.New(rand.NewPCG(4, 14)) }

// within returns an integer of a span.
func within(r *rand.Rand, s api.Span) int { return s.Low + r.IntN(s.High-s.Low+1) }

// part returns a span that lies within another one.
func part(r *rand.Rand, s api.Span) api.Span {
	low := within(r, s)
	return span(low, within(r, span(low, s.High)))
}

// anyRules returns rules of few truths, with lengths that are near to one another.
func anyRules(r *rand.Rand) api.GaugeRules {
	base := []int{0, 3, 40, 5000}[r.IntN(4)]
	rules := api.GaugeRules{New: part(r, span(base, base+6)), Wear: part(r, span(0, 4))}
	for range r.IntN(4) {
		low := max(base-10+r.IntN(16), 0)
		rules.Masters = append(rules.Masters, part(r, span(low, low+4)))
	}
	if r.IntN(2) == 0 {
		return turnedRound(rules)
	}
	return rules
}

// anyHistory returns a valid history, true or not.
func anyHistory(r *rand.Rand, rules api.GaugeRules, length int) history {
	var l history
	for range length {
		if len(rules.Masters) == 0 || r.IntN(2) == 0 {
			l = append(l, tried(1+r.IntN(1500)))
			continue
		}
		l = append(l, api.GaugeEvent{Master: r.IntN(len(rules.Masters)), Goes: r.IntN(2) == 0})
	}
	return l
}

// wornBy returns by how much pieces can wear a gauge: the chapter's section Types. No number is below 0, so Go rounds down.
func wornBy(wear api.Span, pieces int) api.Span {
	return span(wear.Low*pieces/1000, (wear.High*pieces+999)/1000)
}

// fits reports whether a gauge goes into a master, or over one.
func fits(ring bool, size, master int) bool {
	if ring {
		return size >= master
	}
	return size <= master
}

// isBeyond reports whether a gauge is beyond a limit.
func isBeyond(ring bool, size, limit int) bool {
	if ring {
		return size > limit
	}
	return size < limit
}

// world is all that can be after a history: found truth by truth.
type world struct {
	size    api.Span
	masters []api.Span
	real    bool
}

// search goes through all truths of a history.
func search(r api.GaugeRules, l history) world {
	w := world{masters: make([]api.Span, len(r.Masters))}
	masters := make([]int, len(r.Masters))
	var each func(number int)
	each = func(number int) {
		if number < len(masters) {
			for m := r.Masters[number].Low; m <= r.Masters[number].High; m++ {
				masters[number] = m
				each(number + 1)
			}
			return
		}
		sizes := sizesAfter(r, l, masters)
		if len(sizes) == 0 {
			return
		}
		for i, m := range masters {
			w.masters[i] = grown(w.masters[i], !w.real, m)
		}
		for size := range sizes {
			w.size = grown(w.size, !w.real, size)
			w.real = true
		}
	}
	each(0)
	return w
}

// grown returns a span that has a further integer, or just this one.
func grown(s api.Span, first bool, n int) api.Span {
	if first {
		return span(n, n)
	}
	return span(min(s.Low, n), max(s.High, n))
}

// sizesAfter returns all sizes that a gauge can have after a history if the masters are such.
func sizesAfter(r api.GaugeRules, l history, masters []int) map[int]bool {
	sizes := map[int]bool{}
	for size := r.New.Low; size <= r.New.High; size++ {
		sizes[size] = true
	}
	for _, event := range l {
		next := map[int]bool{}
		for size := range sizes {
			if event.Master != api.GaugeNone {
				if fits(r.Ring, size, masters[event.Master]) == event.Goes {
					next[size] = true
				}
				continue
			}
			worn := wornBy(r.Wear, event.Pieces)
			for by := worn.Low; by <= worn.High; by++ {
				if r.Ring {
					next[size+by] = true
				} else {
					next[size-by] = true
				}
			}
		}
		sizes = next
	}
	return sizes
}

// truth is a true history: sizes after each event, and masters.
type truth struct {
	size    int
	masters []int
	events  history
}

// anyTruth returns a truth of rules, and a history that is true in it.
func anyTruth(r *rand.Rand, rules api.GaugeRules, length int) truth {
	t := truth{size: within(r, rules.New)}
	for _, master := range rules.Masters {
		t.masters = append(t.masters, within(r, master))
	}
	for range length {
		t = t.next(r, rules)
	}
	return t
}

// next returns a truth with one more event.
func (t truth) next(r *rand.Rand, rules api.GaugeRules) truth {
	if len(t.masters) > 0 && r.IntN(2) == 0 {
		master := r.IntN(len(t.masters))
		t.events = and(t.events, api.GaugeEvent{Master: master, Goes: fits(rules.Ring, t.size, t.masters[master])})
		return t
	}
	pieces := 1 + r.IntN(1500)
	worn := within(r, wornBy(rules.Wear, pieces))
	if !rules.Ring {
		worn = -worn
	}
	t.size += worn
	t.events = and(t.events, tried(pieces))
	return t
}
