package mill

import (
	"cmp"
	"iter"
	"slices"

	"acme/api"
	"acme/exact"
)

// wire is how wide wire is, and how wide it was when it was annealed last.
type wire struct{ wide, soft int }

// drawn returns wire after a draw.
func (w wire) drawn(d api.MillDraw) wire {
	if d.Anneal {
		w.soft = w.wide
	}
	w.wide = d.To
	return w
}

// way is how wire is drawn best to the end: by the next draw, and with how many annealings and draws in all.
type way struct {
	next              api.MillDraw
	annealings, draws int
	found             bool
}

// better reports whether a way is better than another one, whose next draw comes earlier in the order of draws.
func (w way) better(earlier way) bool {
	if !w.found || !earlier.found {
		return w.found
	}
	return cmp.Or(cmp.Compare(w.annealings, earlier.annealings), cmp.Compare(w.draws, earlier.draws)) < 0
}

// bench is dies, the diameter to which wire is drawn through them, and the best way of each wire that was looked at.
type bench struct {
	api.MillRules
	to    int
	known map[wire]way
}

func (b bench) valid() bool {
	for number, die := range b.Dies {
		if number > 0 && die >= b.Dies[number-1] {
			return false
		}
	}
	return exact.AllFrom(1, api.MaxMillDies, len(b.Dies)) && exact.AllFrom(1, api.MaxMillWire, b.Dies...) && exact.AllFrom(1, 999, b.Reduce, b.Total)
}

// draws yields all draws of wire that are allowed, in the order of draws.
func (b bench) draws(now wire) iter.Seq[api.MillDraw] {
	return func(yield func(api.MillDraw) bool) {
		for _, die := range slices.Backward(b.Dies) {
			for _, anneal := range [2]bool{false, true} {
				d := api.MillDraw{To: die, Anneal: anneal}
				if b.allows(now.wide, now.drawn(d)) && !yield(d) {
					return
				}
			}
		}
	}
}

// allows reports whether wire that was so wide can be drawn to the next one.
func (b bench) allows(wide int, next wire) bool {
	falls := func(from, most int) bool {
		return (from*from-next.wide*next.wide)*1000 <= most*from*from
	}
	return next.wide < wide && falls(wide, b.Reduce) && falls(next.soft, b.Total)
}

// best returns the best way of wire.
func (b bench) best(now wire) way {
	if now.wide == b.to {
		return way{found: true}
	}
	if w, done := b.known[now]; done {
		return w
	}
	var best way
	for d := range b.draws(now) {
		w := b.best(now.drawn(d))
		w.next = d
		w.draws++
		if d.Anneal {
			w.annealings++
		}
		if w.better(best) {
			best = w
		}
	}
	b.known[now] = best
	return best
}

// Draws returns how wire is drawn from one diameter to another one.
func Draws(r api.MillRules, from, to int) ([]api.MillDraw, api.Errno) {
	b := bench{MillRules: r, to: to, known: map[wire]way{}}
	if !b.valid() {
		return nil, api.ErrArg
	}
	if !exact.AllFrom(1, api.MaxMillWire, from) {
		return nil, api.ErrRange
	}
	if to != from && !slices.Contains(r.Dies, to) {
		return nil, api.ErrNone
	}
	now := wire{wide: from, soft: from}
	if !b.best(now).found {
		return nil, api.ErrState
	}
	var draws []api.MillDraw
	for now.wide != to {
		next := b.best(now).next
		draws, now = append(draws, next), now.drawn(next)
	}
	return draws, api.OK
}
