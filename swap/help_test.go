package swap_test

import (
	"math"
	"math/rand/v2"

	"acme/api"
	"acme/swap"
)

// change is a change of a form.
type change = func(f *api.ThreadForm)

// metric returns the form of chapter 1's examples, changed.
func metric(changes ...change) api.ThreadForm {
	f := api.ThreadForm{Pitch: 10000, Left: 577, Right: 577, Above: 3000, Below: 3000, Starts: 1}
	for _, c := range changes {
		c(&f)
	}
	return f
}

func pitch(n int) change  { return func(f *api.ThreadForm) { f.Pitch = n } }
func starts(n int) change { return func(f *api.ThreadForm) { f.Starts = n } }
func taper(n int) change  { return func(f *api.ThreadForm) { f.Taper = n } }
func leftHand() change    { return func(f *api.ThreadForm) { f.LeftHand = true } }

func leans(left, right int) change {
	return func(f *api.ThreadForm) { f.Left, f.Right = left, right }
}

func heights(below, above int) change {
	return func(f *api.ThreadForm) { f.Below, f.Above = below, above }
}

func span(low, high int) api.Span { return api.Span{Low: low, High: high} }

func just(n int) api.Span { return span(n, n) }

// usual returns the depth of the chapter's examples.
func usual() api.Span { return span(-3000, 3000) }

// whole returns all heights of a depth, and sizes all sizes.
func whole() api.Span { return span(-200000, 200000) }

func sizes() api.Span { return span(-10000, 10000) }

// examples returns the standards of the chapter's examples, changed.
func examples(changes ...func(l []api.SwapStandard)) []api.SwapStandard {
	l := []api.SwapStandard{
		{Country: 4, Years: span(1900, 1930), Form: metric(), Screw: span(-60, -20), Nut: span(0, 30)},
		{Country: 4, Years: span(1920, 1980), Form: metric(pitch(10020)), Screw: span(-60, -20), Nut: span(0, 30)},
	}
	for _, c := range changes {
		c(l)
	}
	return l
}

// of returns a standard of a form, whose screws and nuts have such sizes.
func of(f api.ThreadForm, screw, nut api.Span) api.SwapStandard {
	return api.SwapStandard{Form: f, Screw: screw, Nut: nut}
}

// rising returns standards whose screws go into their own nuts, and for one turn into those of all later ones, but not into those of earlier ones.
func rising(count int) []api.SwapStandard {
	var l []api.SwapStandard
	for i := range count {
		// Without leans no size makes a difference. The groove is wider by half as much as a turn takes.
		l = append(l, of(metric(pitch(10000+10*i), leans(0, 0)), just(0), just(0)))
	}
	return l
}

// extremes are numbers for which careless arithmetic does not fit.
func extremes() []int {
	return []int{math.MinInt, math.MinInt + 1, -1 << 40, -1, 0, 1, 1 << 40, math.MaxInt - 1, math.MaxInt}
}

// outside returns numbers that are not from low to high.
func outside(low, high int) []int {
	l := []int{low - 1, high + 1}
	for _, n := range extremes() {
		if n < low || n > high {
			l = append(l, n)
		}
	}
	return l
}

// badSpans returns spans that are not valid from low to high.
func badSpans(low, high int) []api.Span {
	l := []api.Span{span(low+1, low), span(high, high-1), span(high, low)}
	for _, n := range outside(low, high) {
		l = append(l, span(n, low), span(n, high), span(low, n), span(high, n), just(n))
	}
	return l
}

// forms returns forms of all sorts, with limits that are reached.
func forms() []api.ThreadForm {
	return []api.ThreadForm{
		metric(), metric(pitch(10020)), metric(leans(600, 600)), metric(leans(0, 1154)), metric(leans(0, 0), heights(200000, 200000)),
		metric(leans(3000, 3000), heights(833, 833), starts(8), leftHand()), metric(leans(30, 1000), heights(4854, 7), taper(63)),
		metric(pitch(100), leans(999, 3), heights(49, 48), taper(100)), metric(pitch(200000), leans(250, 250), heights(200000, 199999), starts(5)), metric(leans(1, 0), heights(1, 0)),
	}
}

// badForms returns forms that are not valid by chapter 1.
func badForms() []api.ThreadForm {
	return []api.ThreadForm{
		{}, metric(pitch(99)), metric(pitch(200001)), metric(leans(-1, 577)), metric(leans(577, 3001)), metric(heights(0, 0)), metric(heights(-1, 3000)), metric(heights(3000, 5000)), metric(heights(5000, 0)),
		metric(starts(0)), metric(starts(9)), metric(taper(-1)), metric(taper(101)), metric(pitch(math.MinInt)), metric(leans(math.MaxInt, math.MaxInt)), metric(heights(math.MaxInt, math.MaxInt)),
	}
}

// flanks returns where the flanks of a turn of a screw or nut are at a height, in thousandths of a unit: the chapter's formula.
func flanks(f api.ThreadForm, size, turn, height int) (left, right int) {
	return 1000*turn*f.Pitch - 250*f.Pitch + (height-size)*f.Left, 1000*turn*f.Pitch + 250*f.Pitch - (height-size)*f.Right
}

// searched returns for how many turns a screw goes into a nut, by looking at all turns, at each height of the depth.
func searched(screw, nut api.ThreadForm, c, d int, depth api.Span) int {
	if screw.Starts != nut.Starts || screw.LeftHand != nut.LeftHand || screw.Taper != nut.Taper {
		return 0
	}
	first, last := math.MinInt, math.MaxInt
	for turn := range 100 {
		for height := depth.Low; height <= depth.High; height++ {
			left, right := flanks(screw, c, turn, height)
			nutLeft, nutRight := flanks(nut, d, turn, height)
			first, last = max(first, nutLeft-left), min(last, nutRight-right)
		}
		if first > last {
			return turn
		}
	}
	return 100
}

// allTurns returns the least and the greatest number of turns, by looking at all sizes.
func allTurns(a, b api.SwapStandard, depth api.Span) (least, most int) {
	least, most = math.MaxInt, math.MinInt
	for c := a.Screw.Low; c <= a.Screw.High; c++ {
		for d := b.Nut.Low; d <= b.Nut.High; d++ {
			turns := searched(a.Form, b.Form, c, d, depth)
			least, most = min(least, turns), max(most, turns)
		}
	}
	return least, most
}

// dice returns a source of the same numbers each time.
func dice() *rand.Rand { return rand.New(rand.NewPCG(8, 13)) }

// from returns an integer of a span.
func from(r *rand.Rand, s api.Span) int { return s.Low + r.IntN(s.High-s.Low+1) }

// part returns a span that lies within another one.
func part(r *rand.Rand, s api.Span) api.Span {
	low := from(r, s)
	return span(low, from(r, span(low, s.High)))
}

// anyForm returns a form that often agrees with others, and whose pitch and leans are near to theirs, or the same.
func anyForm(r *rand.Rand) api.ThreadForm {
	all := []int{0, 300, 577, 600, 1000}
	f := metric(pitch(10000+[]int{0, 0, 1, 3, 20}[r.IntN(5)]), leans(all[r.IntN(5)], all[r.IntN(5)]), heights(r.IntN(50), 1+r.IntN(50)))
	switch r.IntN(40) {
	case 0:
		f.Starts = 2
	case 1:
		f.LeftHand = true
	case 2:
		f.Taper = 5
	}
	return f
}

// near returns sizes of a few integers, and nearDepth few heights.
func near(r *rand.Rand) api.Span {
	low := r.IntN(61) - 30
	return span(low, low+r.IntN(4))
}

func nearDepth(r *rand.Rand) api.Span { return part(r, span(-20, 20)) }

// anyStandards returns standards with few sizes, most of which can be exchanged for a while.
func anyStandards(r *rand.Rand, most int) []api.SwapStandard {
	var l []api.SwapStandard
	lean := metric(leans(577, 577), heights(40, 40))
	for range 1 + r.IntN(most) {
		f := anyForm(r)
		if r.IntN(3) > 0 {
			f.Left, f.Right = lean.Left, lean.Right
		}
		s := of(f, near(r), near(r))
		if r.IntN(3) > 0 {
			s.Screw.Low, s.Screw.High = s.Screw.Low-30, s.Screw.High-30
		}
		s.Country, s.Years = r.IntN(3), part(r, span(1900, 1950))
		l = append(l, s)
	}
	return l
}

// surelyTold returns for which pairs of standards enough turns are surely told.
func surelyTold(l []api.SwapStandard, depth api.Span, turns int) [][]bool {
	table := make([][]bool, len(l))
	for i, a := range l {
		for _, b := range l {
			least, _, e := swap.Range(a, b, depth)
			table[i] = append(table[i], e == api.OK && least >= turns)
		}
	}
	return table
}

// subsets returns all sets of the numbers below count, each of them ascending.
func subsets(count int) [][]int {
	var all [][]int
	for bits := range 1 << count {
		var set []int
		for n := range count {
			if bits>>n&1 > 0 {
				set = append(set, n)
			}
		}
		all = append(all, set)
	}
	return all
}
