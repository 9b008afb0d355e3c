package fit_test

import (
	"math"
	"math/rand/v2"
	"slices"

	"acme/api"
)

// metric returns the form of the chapter's examples, changed.
func metric(changes ...func(f *api.ThreadForm)) api.ThreadForm {
	f := api.ThreadForm{Pitch: 10000, Left: 577, Right: 577, Above: 3000, Below: 3000, Starts: 1}
	for _, change := range changes {
		change(&f)
	}
	return f
}

// leaning returns a form whose flanks reach as little as may be, so that no pitch and no leans are in each other's way.
func leaning(pitch, left, right int) api.ThreadForm {
	return api.ThreadForm{Pitch: pitch, Left: left, Right: right, Above: 1, Starts: 1}
}

// forms returns forms of all sorts with leans.
func forms() []api.ThreadForm {
	return []api.ThreadForm{
		metric(), leaning(10000, 600, 500), leaning(100, 3000, 3000), leaning(200000, 1, 0), leaning(101, 0, 7),
		leaning(10001, 0, 3000), leaning(10003, 1250, 1), leaning(9998, 577, 0),
		metric(func(f *api.ThreadForm) { f.Starts, f.LeftHand, f.Taper = 8, true, 100 }),
	}
}

// badForms returns forms that are not valid by chapter 1.
func badForms() []api.ThreadForm {
	return []api.ThreadForm{
		{}, leaning(99, 5, 5), leaning(200001, 5, 5), leaning(1000, -1, 5), leaning(1000, 5, 3001),
		metric(func(f *api.ThreadForm) { f.Above = 5000 }), metric(func(f *api.ThreadForm) { f.Starts = 0 }),
	}
}

// straight returns a form without leans.
func straight() api.ThreadForm { return leaning(10000, 0, 0) }

func span(low, high int) api.Span { return api.Span{Low: low, High: high} }

// usual returns the depth of the chapter's examples.
func usual() api.Span { return span(-3000, 3000) }

func depths() []api.Span {
	return []api.Span{usual(), span(0, 0), span(-3000, 0), span(0, 3000), span(100, 101), span(-7, -7), span(-200000, 200000), span(200000, 200000), span(-200000, -199000)}
}

// badDepths returns spans that are no depth: limits passed by one, ends exchanged, and numbers that do not fit.
func badDepths() []api.Span {
	l := []api.Span{span(-200001, 0), span(0, 200001), span(1, 0), span(3000, -3000), span(200001, 200001), span(-200001, -200001)}
	for _, n := range extremes() {
		if n < -200000 || n > 200000 {
			l = append(l, span(n, 0), span(0, n), span(n, n))
		}
	}
	return l
}

// extremes are numbers for which careless arithmetic does not fit.
func extremes() []int {
	return []int{math.MinInt, math.MinInt + 1, -1 << 40, -1, 0, 1, 1 << 40, math.MaxInt - 1, math.MaxInt}
}

// turned returns a thread with turns between such flanks, a left one and a right one for each.
func turned(left, right int, at ...int) api.FitThread {
	t := api.FitThread{Left: left, Right: right}
	for pair := range slices.Chunk(at, 2) {
		t.Turns = append(t.Turns, api.FitTurn{Left: pair[0], Right: pair[1]})
	}
	return t
}

// lean returns a thread with the leans of the examples.
func lean(at ...int) api.FitThread { return turned(577, 577, at...) }

// copyOf returns a thread that shares no memory.
func copyOf(t api.FitThread) api.FitThread {
	t.Turns = slices.Clone(t.Turns)
	return t
}

// moved returns a thread that is moved along its axis.
func moved(t api.FitThread, by int) api.FitThread {
	t = copyOf(t)
	for i := range t.Turns {
		t.Turns[i].Left += by
		t.Turns[i].Right += by
	}
	return t
}

// part returns a thread with some turns of another one.
func part(t api.FitThread, from, to int) api.FitThread {
	t.Turns = slices.Clone(t.Turns[from:to])
	return t
}

// row returns a thread with many turns, each as wide as the gap that follows.
func row(turns, from, wide int) api.FitThread {
	t := api.FitThread{Left: 577, Right: 577}
	for k := range turns {
		at := from + 2*k*wide
		t.Turns = append(t.Turns, api.FitTurn{Left: at, Right: at + wide})
	}
	return t
}

// dice returns a source of the same numbers each time.
func dice() *rand.Rand { return rand.New(rand.NewPCG(3, 12)) }

// near returns a number that differs from another one by at most some.
func near(r *rand.Rand, n, by int) int { return n - by + r.IntN(2*by+1) }

// anyThread returns a thread that is about as a form says, with errors of at most some units, and leans that are a little off.
func anyThread(r *rand.Rand, f api.ThreadForm, turns, wrong int) api.FitThread {
	t := api.FitThread{Left: min(max(near(r, f.Left, 30), 0), 3000), Right: min(max(near(r, f.Right, 30), 0), 3000)}
	least := -api.MaxFitAt
	for k := range turns {
		left := max(near(r, k*f.Pitch-f.Pitch/4, wrong), least)
		right := max(near(r, k*f.Pitch+f.Pitch/4, wrong), left)
		t.Turns = append(t.Turns, api.FitTurn{Left: left, Right: right})
		least = right
	}
	return t
}

// flanksAt returns where both flanks of a turn are at a height, in thousandths of a unit.
type flanksAt func(turn, y int) (left, right int)

// asIs is for a thread: the chapter's section Flanks.
func asIs(t api.FitThread) flanksAt {
	return func(turn, y int) (left, right int) {
		return 1000*t.Turns[turn].Left + y*t.Left, 1000*t.Turns[turn].Right - y*t.Right
	}
}

// perfect is for the perfect thread of a size: the chapter's section Perfect threads.
func perfect(f api.ThreadForm, size int) flanksAt {
	return func(turn, y int) (left, right int) {
		return 1000*turn*f.Pitch - 250*f.Pitch + (y-size)*f.Left, 1000*turn*f.Pitch + 250*f.Pitch - (y-size)*f.Right
	}
}

// heights returns heights of a depth, with both ends: all of them, if they are few.
func heights(depth api.Span) []int {
	var l []int
	for y := depth.Low; y < depth.High; y += 1 + (depth.High-depth.Low)/20 {
		l = append(l, y)
	}
	return append(l, depth.High)
}

// window returns the least and the greatest shift with which teeth lie in grooves: looked at height by height.
func window(screw, nut flanksAt, tooth, groove, many int, depth api.Span) (least, greatest int) {
	least, greatest = math.MinInt, math.MaxInt
	for _, y := range heights(depth) {
		for k := range many {
			toothLeft, toothRight := screw(tooth+k, y)
			grooveLeft, grooveRight := nut(groove+k, y)
			least = max(least, grooveLeft-toothLeft)
			greatest = min(greatest, grooveRight-toothRight)
		}
	}
	return least, greatest
}

// goesInto reports whether a screw goes into a nut with as many turns.
func goesInto(screw, nut flanksAt, turns int, depth api.Span) bool {
	least, greatest := window(screw, nut, 0, 0, turns, depth)
	return least <= greatest
}

// isScrewSize reports whether a size is the least one of a perfect nut into which a screw goes.
func isScrewSize(f api.ThreadForm, screw flanksAt, size, turns int, depth api.Span) bool {
	return goesInto(screw, perfect(f, size), turns, depth) && !goesInto(screw, perfect(f, size-1), turns, depth)
}

// isNutSize reports whether a size is the greatest one of a perfect screw that goes into a nut.
func isNutSize(f api.ThreadForm, nut flanksAt, size, turns int, depth api.Span) bool {
	return goesInto(perfect(f, size), nut, turns, depth) && !goesInto(perfect(f, size+1), nut, turns, depth)
}
