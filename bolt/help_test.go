package bolt_test

import (
	"iter"
	"math"
	"math/rand/v2"

	"acme/api"
)

// change is a change of a kind of bolt.
type change = func(b *api.BoltKind)

// example returns the bolt of the chapter's examples, changed.
func example(changes ...change) api.BoltKind {
	b := api.BoltKind{
		Lead: 2000, Thread: 5000, Head: 7000, OnThread: span(100, 160), OnHead: span(120, 150),
		Stiff: span(50000, 60000), Spring: span(90, 110), Yield: span(30000, 33000),
	}
	for _, c := range changes {
		c(&b)
	}
	return b
}

func lead(n int) change          { return func(b *api.BoltKind) { b.Lead = n } }
func thread(n int) change        { return func(b *api.BoltKind) { b.Thread = n } }
func head(n int) change          { return func(b *api.BoltKind) { b.Head = n } }
func onThread(s api.Span) change { return func(b *api.BoltKind) { b.OnThread = s } }
func onHead(s api.Span) change   { return func(b *api.BoltKind) { b.OnHead = s } }
func stiff(s api.Span) change    { return func(b *api.BoltKind) { b.Stiff = s } }
func spring(s api.Span) change   { return func(b *api.BoltKind) { b.Spring = s } }
func yield(s api.Span) change    { return func(b *api.BoltKind) { b.Yield = s } }

// arm gives a bolt an arm that no friction changes.
func arm(leadLength int) change {
	return func(b *api.BoltKind) { b.Lead, b.Thread, b.Head = leadLength, 0, 0 }
}

func span(low, high int) api.Span { return api.Span{Low: low, High: high} }

func just(n int) api.Span { return span(n, n) }

func byTorque(torque api.Span) api.BoltWay {
	return api.BoltWay{Kind: api.BoltTorque, Torque: torque}
}

func byAngle(torque, angle api.Span) api.BoltWay {
	return api.BoltWay{Kind: api.BoltAngle, Torque: torque, Angle: angle}
}

func byStretch(stretch api.Span) api.BoltWay {
	return api.BoltWay{Kind: api.BoltStretch, Stretch: stretch}
}

// extremes are numbers for which careless arithmetic does not fit.
func extremes() []int {
	return []int{math.MinInt, math.MinInt + 1, -1 << 40, -1, 0, 1, 1 << 40, math.MaxInt - 1, math.MaxInt}
}

// outside returns numbers that are not from low to high.
func outside(low, high int) []int {
	l := []int{low - 1, high + 1}
	for _, n := range extremes() {
		if n < low || n > high {
			l = append(l, n)
		}
	}
	return l
}

// badSpans returns spans that are not valid from low to high.
func badSpans(low, high int) []api.Span {
	l := []api.Span{span(low+1, low), span(high, high-1), span(high, low)}
	for _, n := range outside(low, high) {
		l = append(l, span(n, low), span(n, high), span(low, n), span(high, n), just(n))
	}
	return l
}

// truth is an integer of each span of a bolt and of a way.
type truth struct{ onThread, onHead, stiff, spring, yield, torque, angle, stretch int }

// spansOf returns the spans of a bolt and of a way, in the order of a truth.
func spansOf(b api.BoltKind, w api.BoltWay) [8]api.Span {
	return [8]api.Span{b.OnThread, b.OnHead, b.Stiff, b.Spring, b.Yield, w.Torque, w.Angle, w.Stretch}
}

// truthOf returns the truth of integers, in this order.
func truthOf(n [8]int) truth { return truth{n[0], n[1], n[2], n[3], n[4], n[5], n[6], n[7]} }

// armOf returns the arm of a bolt with some frictions: the chapter's formula.
func armOf(b api.BoltKind, onThread, onHead int) int {
	return 1000*b.Lead + b.Thread*onThread + b.Head*onHead
}

// force returns the force of a bolt in a truth: the chapter's formulas.
func (t truth) force(b api.BoltKind, how api.BoltHow) int {
	switch how {
	case api.BoltTorque:
		return 1000 * t.torque / armOf(b, t.onThread, t.onHead)
	case api.BoltAngle:
		return 1000*t.torque/armOf(b, t.onThread, t.onHead) + t.stiff*t.angle/1000
	}
	return t.spring * t.stretch
}

// truths yields all truths of a bolt and a way.
func truths(b api.BoltKind, w api.BoltWay) iter.Seq[truth] {
	spans := spansOf(b, w)
	return func(yield func(truth) bool) {
		var now [8]int
		for i, s := range spans {
			now[i] = s.Low
		}
		for yield(truthOf(now)) {
			i := 0
			for i < len(now) && now[i] == spans[i].High {
				now[i] = spans[i].Low
				i++
			}
			if i == len(now) {
				return
			}
			now[i]++
		}
	}
}

// corners yields the truths all of whose integers are ends of their spans.
func corners(b api.BoltKind, w api.BoltWay) iter.Seq[truth] {
	return func(yield func(truth) bool) {
		for corner := range 256 {
			var now [8]int
			for i, s := range spansOf(b, w) {
				now[i] = []int{s.Low, s.High}[corner>>i&1]
			}
			if !yield(truthOf(now)) {
				return
			}
		}
	}
}

// anyTruths yields some truths.
func anyTruths(r *rand.Rand, b api.BoltKind, w api.BoltWay) iter.Seq[truth] {
	return func(yield func(truth) bool) {
		for range 20 {
			var now [8]int
			for i, s := range spansOf(b, w) {
				now[i] = within(r, s)
			}
			if !yield(truthOf(now)) {
				return
			}
		}
	}
}

// forcesOf returns the least and the greatest force in some truths.
func forcesOf(b api.BoltKind, how api.BoltHow, truths iter.Seq[truth]) api.Span {
	s := span(math.MaxInt, math.MinInt)
	for t := range truths {
		force := t.force(b, how)
		s = span(min(s.Low, force), max(s.High, force))
	}
	return s
}

// sure reports whether a bolt has a wanted force in all of some truths, and is beyond its yield in none.
func sure(b api.BoltKind, how api.BoltHow, want api.Span, truths iter.Seq[truth]) bool {
	for t := range truths {
		force := t.force(b, how)
		if force < want.Low || force > want.High || force > t.yield {
			return false
		}
	}
	return true
}

// dice returns a source of the same numbers each time.
func dice() *rand.Rand { return rand.New(rand.NewPCG(9, 15)) }

// within returns an integer of a span.
func within(r *rand.Rand, s api.Span) int { return s.Low + r.IntN(s.High-s.Low+1) }

// part returns a span that lies within another one.
func part(r *rand.Rand, s api.Span) api.Span {
	low := within(r, s)
	return span(low, within(r, span(low, s.High)))
}

// few returns a span of few integers, from low to high.
func few(r *rand.Rand, low, high int) api.Span {
	n := within(r, span(low, high))
	return span(n, min(n+r.IntN(3), high))
}

// anyBolt returns a bolt of few truths, whose forces are small if its torques are.
func anyBolt(r *rand.Rand) api.BoltKind {
	return api.BoltKind{
		Lead: 1 + r.IntN(4), Thread: r.IntN(3) * r.IntN(20), Head: r.IntN(3) * r.IntN(20), OnThread: few(r, 0, 200), OnHead: few(r, 0, 200),
		Stiff: few(r, 1, 4000), Spring: few(r, 1, 5), Yield: few(r, 1, 60),
	}
}

// anyWay returns a way of few truths and small forces.
func anyWay(r *rand.Rand) api.BoltWay {
	torque := few(r, 0, 120)
	switch r.IntN(3) {
	case 0:
		return byTorque(torque)
	case 1:
		return byAngle(torque, few(r, 0, 6000))
	}
	return byStretch(few(r, 0, 12))
}

// wideBolt returns a bolt of more truths than a search could go through.
func wideBolt(r *rand.Rand) api.BoltKind {
	most := []int{10, 3000, api.MaxBoltArm}[r.IntN(3)]
	force := []int{1000, 100000, api.MaxBoltForce}[r.IntN(3)]
	return api.BoltKind{
		Lead: 1 + r.IntN(most), Thread: r.IntN(most + 1), Head: r.IntN(most + 1), OnThread: part(r, span(0, api.MaxBoltFriction)), OnHead: part(r, span(0, api.MaxBoltFriction)),
		Stiff: part(r, span(1, force)), Spring: part(r, span(1, min(force, api.MaxBoltSpring))), Yield: part(r, span(1, force)),
	}
}

// wideWay returns a way of as many truths.
func wideWay(r *rand.Rand) api.BoltWay {
	torque := part(r, span(0, []int{1000, 1000000, 1000000000, api.MaxBoltTorque}[r.IntN(4)]))
	switch r.IntN(3) {
	case 0:
		return byTorque(torque)
	case 1:
		return byAngle(torque, part(r, span(0, api.MaxBoltAngle)))
	}
	return byStretch(part(r, span(0, api.MaxBoltStretch)))
}

// narrower returns a bolt with narrower spans.
func narrower(r *rand.Rand, b api.BoltKind) api.BoltKind {
	for _, s := range []*api.Span{&b.OnThread, &b.OnHead, &b.Stiff, &b.Spring, &b.Yield} {
		if r.IntN(3) > 0 {
			*s = part(r, *s)
		}
	}
	return b
}

// narrowerWay returns a way with narrower spans.
func narrowerWay(r *rand.Rand, w api.BoltWay) api.BoltWay {
	for _, s := range []*api.Span{&w.Torque, &w.Angle, &w.Stretch} {
		if r.IntN(3) > 0 {
			*s = part(r, *s)
		}
	}
	return w
}

// lies reports whether a span lies within another one.
func lies(inner, outer api.Span) bool { return outer.Low <= inner.Low && inner.High <= outer.High }
