package gauge

import (
	"slices"

	"acme/api"
)

// kind is a kind of event.
type kind int

const (
	tried kind = iota // on pieces
	went              // into a master
	stuck             // before a master
)

func kindOf(event api.GaugeEvent) kind {
	switch {
	case event.Master == api.GaugeNone:
		return tried
	case event.Goes:
		return went
	}
	return stuck
}

// span is all sizes that something can have.
type span struct{ api.Span }

func (s span) empty() bool { return s.High < s.Low }

// rule says that one size is greater than another one at least by a number, which can be below 0. Sizes are known by their numbers.
type rule struct{ small, great, by int }

// truths are what sizes can be in a history of a plug: those of the masters, by their numbers, then that of the new plug and those after each event with pieces.
type truths struct {
	plug
	sizes []span
	rules []rule
}

// truthsOf returns the truths before the first event.
func truthsOf(p plug) truths {
	t := truths{plug: p}
	for _, master := range p.Masters {
		t.sizes = append(t.sizes, span{master})
	}
	t.sizes = append(t.sizes, span{p.New})
	return t
}

// gauge returns the size after all events.
func (t truths) gauge() span { return t.sizes[len(t.sizes)-1] }

// add appends the rules of an event, and the size after it if that is another one.
func (t *truths) add(event api.GaugeEvent) {
	now := len(t.sizes) - 1
	switch kindOf(event) {
	case tried:
		worn, before := t.worn(event.Pieces), t.gauge()
		t.sizes = append(t.sizes, span{api.Span{Low: before.Low - worn.High, High: before.High - worn.Low}})
		t.rules = append(t.rules, rule{small: now + 1, great: now, by: worn.Low}, rule{small: now, great: now + 1, by: -worn.High})
	case went:
		t.rules = append(t.rules, rule{small: now, great: event.Master})
	case stuck:
		t.rules = append(t.rules, rule{small: event.Master, great: now, by: 1})
	}
}

// follow narrows sizes by each rule in turn, and reports whether one of them has become narrower.
func (t truths) follow() bool {
	narrower := false
	for _, r := range t.rules {
		small, great := &t.sizes[r.small], &t.sizes[r.great]
		high, low := min(small.High, great.High-r.by), max(great.Low, small.Low+r.by)
		narrower = narrower || high < small.High || low > great.Low
		small.High, great.Low = high, low
	}
	return narrower
}

// settle narrows all sizes to those that they have in a truth, and reports whether there is one.
func (t truths) settle() bool {
	// Where there is a truth, an end comes from that of another size by way of each size at most once, so nothing becomes narrower the last time. All low ends together are a truth then, and so are all high ends.
	for range len(t.sizes) {
		if !t.follow() {
			return !slices.ContainsFunc(t.sizes, span.empty)
		}
	}
	return false
}

// after returns the truths of a history; it is valid, but can have one more event than there may be.
func (p plug) after(l []api.GaugeEvent) (truths, api.Errno) {
	t := truthsOf(p)
	for _, event := range l {
		t.add(event)
	}
	if !t.settle() {
		return truths{}, api.ErrState
	}
	return t, api.OK
}

func (p plug) contradicts(l []api.GaugeEvent) bool {
	_, e := p.after(l)
	return e != api.OK
}
