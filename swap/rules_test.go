package swap_test

import (
	"reflect"
	"slices"
	"testing"

	"acme/api"
	"acme/swap"
)

// both keeps a result and its error together.
func both[T any](value T, e api.Errno) any { return [2]any{value, e} }

// pair keeps two results and their error together.
func pair[T any](first, second T, e api.Errno) any { return [3]any{first, second, e} }

// allAnswers returns the results of all functions; those of two standards are asked of the first and the last one.
func allAnswers(l []api.SwapStandard, a asked, c, d int) []any {
	var screws, nuts api.SwapStandard
	if len(l) > 0 {
		screws, nuts = l[0], l[len(l)-1]
	}
	return []any{
		swap.Check(l), both(swap.Turns(screws.Form, nuts.Form, c, d, a.depth)), pair(swap.Range(screws, nuts, a.depth)), pair(swap.Mates(l, a.depth, a.turns)), both(swap.Set(l, a.depth, a.turns)),
		both(swap.Stock(l, a.screws, a.depth, a.turns)), both(swap.Valid(l, a.country, a.year)), both(swap.Lot(l, a.lot)),
	}
}

// TestTerminates is for P1: no function panics, whatever its arguments are.
func TestTerminates(t *testing.T) {
	for _, n := range extremes() {
		for _, m := range extremes() {
			s := span(n, m)
			f := api.ThreadForm{Pitch: n, Left: m, Right: n, Above: m, Below: n, Starts: m, Taper: n}
			for _, l := range [][]api.SwapStandard{
				nil, examples(), rising(12), rising(13), {of(metric(), s, just(0))}, {of(metric(), just(0), s)}, {of(f, just(0), just(0))}, {of(metric(pitch(n)), s, s), examples()[0]}, {{Country: n, Years: s, Form: f, Screw: s, Nut: s}},
			} {
				for _, a := range append(wrongAsked(), usualAsked(), asked{depth: s, turns: n, country: n, year: m, screws: []int{n, m}, lot: api.SwapLot{Country: n, Years: s, Pitch: s, Pieces: []api.Span{s, s}}}, asked{depth: usual(), turns: 2, screws: []int{0, n}, lot: wideLot(pieces(s))}) {
					allAnswers(l, a, n, m)
				}
			}
		}
	}
}

// asks returns what standards are asked, right and wrong.
func asks() []asked {
	return append(wrongAsked(), usualAsked(), asked{}, asked{depth: usual(), turns: 2, country: 4, year: 1925, screws: []int{1, 0, 1}, lot: wideLot(pieces(just(-30), span(-40, -20)))})
}

// longer returns standards and what is asked of them, with further elements behind the ends of all lists.
func longer(l []api.SwapStandard, a asked) ([]api.SwapStandard, asked) {
	l = append(slices.Clone(l), api.SwapStandard{Country: 97}, api.SwapStandard{Country: 98})
	a.screws, a.lot.Pieces = append(slices.Clone(a.screws), 97, 98), append(slices.Clone(a.lot.Pieces), just(97), just(98))
	return l, a
}

// TestEqualResults is for P2 and R4: equal arguments have equal results, whatever was called before, and no argument is changed, nor what lies behind its end.
func TestEqualResults(t *testing.T) {
	all := slices.Concat(goodLists(), badLists()[:20], longLists()[:4])
	r := dice()
	for range 50 {
		all = append(all, anyStandards(r, 12))
	}
	var once [][]any
	for _, l := range all {
		for _, a := range asks() {
			behind, more := longer(l, a)
			before, moreBefore := longer(l, a)
			less := more
			less.screws, less.lot.Pieces = less.screws[:len(a.screws)], less.lot.Pieces[:len(a.lot.Pieces)]
			once = append(once, allAnswers(behind[:len(l)], less, -60, 0))
			if !reflect.DeepEqual(before, behind) || !reflect.DeepEqual(moreBefore, more) {
				t.Error("an argument has changed", before, behind, moreBefore, more)
			}
		}
	}
	for i, l := range all {
		for k, a := range asks() {
			if again := allAnswers(l, a, -60, 0); !reflect.DeepEqual(once[i*len(asks())+k], again) {
				t.Error("results differ", l, a, again)
			}
		}
	}
}

// TestNewMemory is for R4: no two results share memory, nor does one with an argument.
func TestNewMemory(t *testing.T) {
	l, screws := rising(12), []int{3, 4}
	for _, list := range []func() []int{
		func() []int { got, _ := swap.Set(examples(), usual(), 1); return got },
		func() []int { got, _ := swap.Stock(l, screws, usual(), 100); return got },
		func() []int { got, _ := swap.Valid(l, 0, 0); return got },
		func() []int { got, _ := swap.Lot(l, wideLot()); return got },
	} {
		first, second := list(), list()
		want := slices.Clone(first)
		for i := range first {
			first[i] = -1
		}
		// What lies behind the end of a result is its own, too.
		_ = append(first, -1, -1, -1)
		if third := list(); len(want) < 2 || !slices.Equal(second, want) || !slices.Equal(third, want) || !slices.Equal(screws, []int{3, 4}) {
			t.Error("results share memory", want, second, third, screws)
		}
	}
	surely, possibly, _ := swap.Mates(examples(), usual(), 1)
	surely[0] = [2]int{-1, -1}
	if possibly[0] != [2]int{0, 0} {
		t.Error("lists of Mates share memory", possibly)
	}
	checkMates(t, examples(), usual(), 1, possibly, possibly)
}

// TestEmpty is for R3: a nil list and an empty one are the same.
func TestEmpty(t *testing.T) {
	nothing := usualAsked()
	nothing.screws, nothing.lot.Pieces = []int{}, []api.Span{}
	same := usualAsked()
	same.screws, same.lot.Pieces = nil, nil
	if got, want := allAnswers([]api.SwapStandard{}, nothing, 0, 0), allAnswers(nil, same, 0, 0); !reflect.DeepEqual(got, want) {
		t.Error(got, want)
	}
	if got, want := allAnswers(examples(), nothing, 0, 0), allAnswers(examples(), same, 0, 0); !reflect.DeepEqual(got, want) {
		t.Error(got, want)
	}
}

// TestFull is for R7: as much as there may be of all, with numbers as great as they can be.
func TestFull(t *testing.T) {
	s := api.SwapStandard{Country: 1000, Years: just(3000), Form: metric(pitch(200000), leans(3000, 3000), heights(16666, 16666), starts(8), taper(100)), Screw: sizes(), Nut: just(10000)}
	l := slices.Repeat([]api.SwapStandard{s}, 12)
	all, one := []int{0, 1, 2, 3, 4, 5, 6, 7, 8, 9, 10, 11}, []int{0}
	var pairs [][2]int
	for i := range l {
		for k := range l {
			pairs = append(pairs, [2]int{i, k})
		}
	}
	a := asked{depth: whole(), turns: 100, country: 1000, year: 3000, screws: slices.Repeat([]int{11}, 50), lot: api.SwapLot{Country: 1000, Years: just(3000), Pitch: just(200000), Pieces: slices.Repeat([]api.Span{sizes()}, 50)}}
	want := []any{
		api.OK, both(100, api.OK), pair(100, 100, api.OK), pair(pairs, pairs, api.OK), both(all, api.OK), both(one, api.OK), both(all, api.OK), both(all, api.OK),
	}
	if got := allAnswers(l, a, 10000, 10000); !reflect.DeepEqual(got, want) {
		t.Error(got, want)
	}
}
