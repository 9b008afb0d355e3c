package swap_test

import (
	"math"
	"slices"
	"testing"

	"acme/api"
	"acme/swap"
)

// goodStandards returns standards that are as they should be, with each limit reached.
func goodStandards() []api.SwapStandard {
	l := append(examples(), api.SwapStandard{Country: 1000, Years: span(0, 3000), Form: metric(), Screw: sizes(), Nut: sizes()}, api.SwapStandard{Years: just(3000), Form: metric(), Screw: just(-10000), Nut: just(10000)}, of(metric(), just(10000), just(-10000)))
	for _, f := range forms() {
		l = append(l, of(f, just(0), just(0)))
	}
	return l
}

// badStandards returns standards with one error each.
func badStandards() []api.SwapStandard {
	changed := func(c func(s *api.SwapStandard)) api.SwapStandard {
		s := examples()[0]
		c(&s)
		return s
	}
	l := []api.SwapStandard{{}}
	for _, n := range append(outside(0, 1000), api.SwapAny) {
		l = append(l, changed(func(s *api.SwapStandard) { s.Country = n }))
	}
	for _, years := range badSpans(0, 3000) {
		l = append(l, changed(func(s *api.SwapStandard) { s.Years = years }))
	}
	for _, f := range badForms() {
		l = append(l, changed(func(s *api.SwapStandard) { s.Form = f }))
	}
	for _, bad := range badSpans(-10000, 10000) {
		l = append(l, changed(func(s *api.SwapStandard) { s.Screw = bad }), changed(func(s *api.SwapStandard) { s.Nut = bad }))
	}
	return l
}

// longLists returns too many standards, with and without further errors.
func longLists() [][]api.SwapStandard {
	s := examples()[0]
	return [][]api.SwapStandard{
		slices.Repeat([]api.SwapStandard{s}, 13), rising(13), rising(1000), make([]api.SwapStandard, 13), make([]api.SwapStandard, 5000),
		append(slices.Repeat([]api.SwapStandard{s}, 12), api.SwapStandard{}), append(make([]api.SwapStandard, 1), slices.Repeat([]api.SwapStandard{s}, 12)...),
	}
}

// badLists returns standards with an error at all places, of lists of all lengths.
func badLists() [][]api.SwapStandard {
	var l [][]api.SwapStandard
	for _, bad := range badStandards() {
		l = append(l, []api.SwapStandard{bad}, append(examples(), bad))
	}
	for place := range 12 {
		list := rising(12)
		list[place].Years = span(3, 2)
		l = append(l, list)
	}
	return l
}

// goodLists returns standards that are as they should be; there may be none, and there may be 12.
func goodLists() [][]api.SwapStandard {
	l := [][]api.SwapStandard{nil, examples(), rising(1), rising(12), slices.Repeat(examples(), 6)}
	for s := range slices.Chunk(goodStandards(), 12) {
		l = append(l, s)
	}
	return l
}

// TestCheck is for P8.1.
func TestCheck(t *testing.T) {
	for want, lists := range map[api.Errno][][]api.SwapStandard{api.OK: goodLists(), api.ErrArg: badLists(), api.ErrLong: longLists()} {
		for _, l := range lists {
			if e := swap.Check(l); e != want {
				t.Error(l, e, want)
			}
		}
	}
}

// asked is all that is asked of standards.
type asked struct {
	depth                api.Span
	turns, country, year int
	screws               []int
	lot                  api.SwapLot
}

// usualAsked returns what all standards can be asked.
func usualAsked() asked {
	return asked{depth: usual(), turns: 1, country: 4, year: 1925, lot: usualLot()}
}

// wrongAsked returns what no standards can be asked.
func wrongAsked() []asked {
	return []asked{
		{depth: span(1, 0), turns: 1, screws: []int{-1}, country: -1, year: 0, lot: api.SwapLot{Country: -2}},
		{depth: usual(), turns: 0, screws: make([]int, 51), country: 0, year: -1, lot: api.SwapLot{Pieces: make([]api.Span, 51)}},
		{depth: whole(), turns: 101, screws: []int{0, 12}, country: 1001, year: 3001, lot: api.SwapLot{Pitch: span(1, 0)}},
		{depth: span(math.MinInt, math.MaxInt), turns: math.MinInt, screws: []int{math.MaxInt}, country: math.MaxInt, year: math.MinInt, lot: api.SwapLot{Years: span(-1, 0)}},
	}
}

// answer is whether all results are zero values, and the error.
type answer struct {
	zero bool
	e    api.Errno
}

func failed(e api.Errno) answer { return answer{zero: true, e: e} }

func listAnswer(l []int, e api.Errno) answer { return answer{zero: l == nil, e: e} }

func matesAnswer(surely, possibly [][2]int, e api.Errno) answer {
	return answer{zero: surely == nil && possibly == nil, e: e}
}

// answers returns what all functions with lists of standards answer.
func answers(l []api.SwapStandard, a asked) map[string]answer {
	return map[string]answer{
		"Check": failed(swap.Check(l)),
		"Mates": matesAnswer(swap.Mates(l, a.depth, a.turns)),
		"Set":   listAnswer(swap.Set(l, a.depth, a.turns)),
		"Stock": listAnswer(swap.Stock(l, a.screws, a.depth, a.turns)),
		"Valid": listAnswer(swap.Valid(l, a.country, a.year)),
		"Lot":   listAnswer(swap.Lot(l, a.lot)),
	}
}

// TestStandardsFirst is for P8.1, P1 and R2: the errors of standards come before all others, and with them there are no results.
func TestStandardsFirst(t *testing.T) {
	for want, lists := range map[api.Errno][][]api.SwapStandard{api.ErrArg: badLists(), api.ErrLong: longLists()} {
		for _, l := range lists {
			for _, a := range append(wrongAsked(), usualAsked()) {
				for name, got := range answers(l, a) {
					if got != failed(want) {
						t.Error(name, l, a, got, want)
					}
				}
			}
		}
	}
	for _, l := range goodLists() {
		for name, got := range answers(l, usualAsked()) {
			if got.e != api.OK {
				t.Error(name, l, got)
			}
		}
		for i, a := range wrongAsked() {
			for name, got := range answers(l, a) {
				if name != "Check" && (!got.zero || got.e == api.OK) {
					t.Error(name, l, i, got)
				}
			}
		}
	}
}
