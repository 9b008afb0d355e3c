package die

import (
	"iter"
	"sort"

	"acme/api"
	"acme/exact"
)

// shop is a tool with the orders that are cut, and the number of all their pieces.
type shop struct {
	api.DieTool
	orders []api.DieOrder
	pieces int
}

// shopOf returns the shop of a tool and of orders, or the error of one of them.
func shopOf(t api.DieTool, l []api.DieOrder) (shop, api.Errno) {
	if e := Check(t, l); e != api.OK {
		return shop{}, e
	}
	s := shop{DieTool: t, orders: l}
	for _, order := range l {
		s.pieces += order.Pieces
	}
	return s, api.OK
}

// hasPieces reports whether these are numbers of pieces.
func (s shop) hasPieces(pieces ...int) bool { return exact.AllFrom(0, s.pieces-1, pieces...) }

// inOrder reports whether these are numbers of pieces, in strictly ascending order.
func (s shop) inOrder(pieces ...int) bool {
	before := -1
	for _, piece := range pieces {
		if piece <= before {
			return false
		}
		before = piece
	}
	return s.hasPieces(pieces...)
}

// part is the pieces from `from` to to - 1, which are of one order.
type part struct {
	api.DieOrder
	from, to int
}

func (p part) count() int { return p.to - p.from }

// parts yields the pieces from `from` to to - 1, order by order.
func (s shop) parts(from, to int) iter.Seq[part] {
	return func(yield func(part) bool) {
		first := 0
		for _, order := range s.orders {
			next := first + order.Pieces
			p := part{order, max(first, from), min(next, to)}
			if p.count() > 0 && !yield(p) {
				return
			}
			first = next
		}
	}
}

// worn returns by how much a tool is worn that was worn before, after some pieces of a steel.
func (s shop) worn(before api.Span, steel, pieces int) api.Span {
	wear := s.Wears[steel]
	return api.Span{Low: before.Low + pieces*wear.Low, High: before.High + pieces*wear.High}
}

// grown returns by how much the size of a tool that was worn is greater: below 0 if it goes down.
func (s shop) grown(worn api.Span) api.Span {
	if s.Down {
		return api.Span{Low: -worn.High, High: -worn.Low}
	}
	return worn
}

// targets returns the targets with which a piece is sure, if the tool is worn before it; there are none if its Low is above its High.
func (s shop) targets(zone, worn api.Span) api.Span {
	grown := s.grown(worn)
	return api.Span{
		Low:  zone.Low - s.Set.Low - grown.Low - s.Scatter.Low,
		High: zone.High - s.Set.High - grown.High - s.Scatter.High,
	}
}

// allTargets returns the targets that a setting can have. No other one makes even the piece just after the setting sure, whatever its zone is.
func allTargets() api.Span { return api.Span{Low: -api.MaxDieAt, High: 2 * api.MaxDieAt} }

// reach returns the first piece from `from` on that is not sure with any of some targets with which all pieces before it are, or `to` if there is none; and those targets with which all before it are sure.
func (s shop) reach(targets api.Span, from, to int) (sure api.Span, reached int) {
	var worn api.Span
	for p := range s.parts(from, to) {
		// The wear grows by the same for each piece of a part: what is sure of its first and of its last one is so of all between.
		until := func(last int) api.Span {
			return exact.Common(targets, s.targets(p.Zone, worn), s.targets(p.Zone, s.worn(worn, p.Steel, last)))
		}
		lost := func(last int) bool {
			left := until(last)
			return left.Low > left.High
		}
		done := sort.Search(p.count(), lost)
		if done > 0 {
			targets = until(done - 1)
		}
		if done < p.count() {
			return targets, p.from + done
		}
		worn = s.worn(worn, p.Steel, done)
	}
	return targets, to
}

// steps yields the settings of a plan, each of which goes as far as it can, and how far it goes: up to the first piece that cannot be sure with any setting.
func (s shop) steps() iter.Seq2[api.DieSetting, int] {
	return func(yield func(api.DieSetting, int) bool) {
		from := 0
		for from < s.pieces {
			targets, reached := s.reach(allTargets(), from, s.pieces)
			if reached == from || !yield(api.DieSetting{From: from, Target: targets.Low}, reached) {
				return
			}
			from = reached
		}
	}
}
