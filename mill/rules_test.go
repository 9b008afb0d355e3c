package mill_test

import (
	"reflect"
	"slices"
	"testing"

	"acme/api"
	"acme/mill"
)

// both keeps a result and its error together, and pair keeps two.
func both[T any](value T, e api.Errno) any { return [2]any{value, e} }

func pair[T, U any](first T, second U, e api.Errno) any { return [3]any{first, second, e} }

// made is all that is asked of wire, blanks and coils.
type made struct {
	rules        api.MillRules
	from, to     int
	parts        []api.MillPart
	wire, cut    api.Span
	coils, needs []int
}

// wireAnswers returns the results of all functions without runs.
func wireAnswers(m made) []any {
	return []any{both(mill.Draws(m.rules, m.from, m.to)), both(mill.Blank(m.parts, m.wire)), both(mill.Spare(m.parts, m.wire, m.cut)), both(mill.Share(m.coils, m.needs))}
}

// runAnswers returns the results of all functions with runs.
func runAnswers(l []api.MillRun, a asked) []any {
	return []any{mill.Check(l), both(mill.Causes(l, a.lot)), both(mill.Culprits(l, a.bad, a.good)), both(mill.Recall(l, a.lots, a.cause)), pair(mill.Next(l, a.bad, a.good, a.lots))}
}

// usualMade returns what can be asked of wire, blanks and coils.
func usualMade() made {
	return made{rules: example(), from: 1000, to: 600, parts: screw(), wire: span(79, 80), cut: span(470, 475), coils: []int{100, 60, 50}, needs: []int{40, 30, 50, 30}}
}

// TestTerminates is for P1: no function panics, whatever its arguments are.
func TestTerminates(t *testing.T) {
	for _, n := range extremes() {
		for _, m := range extremes() {
			for _, strange := range []made{
				{}, {rules: rules(n, m, n, m), from: n, to: m, parts: []api.MillPart{part(n, m)}, wire: span(n, m), cut: span(m, n), coils: []int{n, m}, needs: []int{m}},
				{rules: rules(300, 500, n, m), from: 1000, to: n, parts: screw(), wire: span(n, m), cut: span(1, 2), coils: []int{n}, needs: []int{5}},
				{rules: example(), from: n, to: m, parts: screw(), wire: span(1, 2), cut: span(n, m), coils: []int{5}, needs: []int{n, m}},
				{rules: rules(n, m, 900, 800), from: n, to: 800, parts: append(screw(), part(n, 1), part(1, m)), wire: span(1, 2), cut: span(1, 2), coils: make([]int, 5000), needs: make([]int, 5000)},
				{rules: rules(n, m, make([]int, 5000)...), from: 1, to: 1, parts: make([]api.MillPart, 5000)},
			} {
				wireAnswers(strange)
			}
			for _, l := range [][]api.MillRun{nil, works(), shifts(60, 1600), {run(n, m, n, m, n)}, {run(1, n, m, 1, 1)}, {run(1, 0, 100000, n, m)}, {run(1, 0, 9, 1, 1), run(1, n, m, 1, 1)}, make([]api.MillRun, 5000)} {
				for _, a := range []asked{
					{}, usual(), {lot: lot(n, m, n), bad: []api.MillLot{lot(1, n, m)}, good: []api.MillLot{lot(n, 0, 5)}, lots: []api.MillLot{lot(n, n, m)}, cause: api.MillCause{Kind: api.MillKind(n), Machine: m, Number: n}},
					{lot: lot(1, n, m), bad: []api.MillLot{lot(1, 9, 10), lot(n, n, n)}, lots: []api.MillLot{lot(1, 0, n)}, cause: hour(n, m)},
					{lot: lot(1, 0, n), bad: []api.MillLot{lot(1, 9, 10)}, good: []api.MillLot{lot(2, n, m)}, lots: []api.MillLot{lot(1, m, 100000)}, cause: coil(n)},
					{bad: make([]api.MillLot, 5000), good: make([]api.MillLot, 5000), lots: make([]api.MillLot, 5000), cause: die(n)},
				} {
					runAnswers(l, a)
				}
			}
		}
	}
}

// manyMade returns what is asked of wire, blanks and coils, right and wrong.
func manyMade() []made {
	r := dice()
	l := []made{{}, usualMade(), {rules: rules(300, 500, 900, 900), parts: copies(part(1, 1), 11), coils: make([]int, 9)}, {rules: example(), from: 1000, to: 5, parts: screw(), coils: []int{1}, needs: []int{2}}}
	for range 200 {
		m := usualMade()
		m.rules = anyRules(r, 12)
		m.from, m.to = anyWire(r, m.rules)
		m.wire.High += r.IntN(100)
		m.cut.High += r.IntN(100)
		m.parts = append(m.parts, part(1+r.IntN(100), r.IntN(1000)))
		m.coils, m.needs = append(m.coils, 1+r.IntN(100)), append(m.needs, 1+r.IntN(100))
		l = append(l, m)
	}
	return l
}

// manyAsks returns runs and what is asked of them and of others, right and wrong.
func manyAsks() (all [][]api.MillRun, asks []asked) {
	r := dice()
	for _, wrong := range badWorks() {
		all = append(all, wrong[:4]...)
	}
	all, asks = append(all, works(), nil), append(wrongAsked(), usual(), asked{})
	causes := allCauses()
	for range 30 {
		all = append(all, anyWorks(r))
		asks = append(asks, asked{lot: lot(r.IntN(3), 0, 5+r.IntN(10)), bad: anyLots(r, 3), good: anyLots(r, 3), lots: anyLots(r, 5), cause: causes[r.IntN(len(causes))]})
	}
	return all, asks
}

// behind returns a list with some more behind its end, and that end.
func behind[T any](l []T, more ...T) (list, whole []T) {
	whole = append(slices.Clone(l), more...)
	return whole[:len(l)], whole
}

// TestEqualResults is for P2 and R4: equal arguments have equal results, whatever was called before, and no argument is changed, nor what lies behind its end.
func TestEqualResults(t *testing.T) {
	all, asks := manyAsks()
	var once []any
	for _, l := range all {
		for _, a := range asks {
			l, runs := behind(l, run(97, 97, 97, 97, 97), run(98, 98, 98, 98, 98))
			more := []api.MillLot{lot(97, 97, 97), lot(98, 98, 98)}
			var bad, good, lots []api.MillLot
			a.bad, bad = behind(a.bad, more...)
			a.good, good = behind(a.good, more...)
			a.lots, lots = behind(a.lots, more...)
			before := []any{slices.Clone(runs), slices.Clone(bad), slices.Clone(good), slices.Clone(lots)}
			once = append(once, runAnswers(l, a))
			if after := []any{runs, bad, good, lots}; !reflect.DeepEqual(before, after) {
				t.Error("an argument has changed", before, after)
			}
		}
	}
	for i, l := range all {
		for k, a := range asks {
			if again := runAnswers(l, a); !reflect.DeepEqual(once[i*len(asks)+k], any(again)) {
				t.Error("results differ", l, a, again)
			}
		}
	}
}

// TestEqualWires is for P2 and R4, in all functions without runs.
func TestEqualWires(t *testing.T) {
	var once []any
	for _, m := range manyMade() {
		var listed, coils, needs []int
		var parts []api.MillPart
		m.rules.Dies, listed = behind(m.rules.Dies, 97, 98)
		m.parts, parts = behind(m.parts, part(97, 97), part(98, 98))
		m.coils, coils = behind(m.coils, 97, 98)
		m.needs, needs = behind(m.needs, 97, 98)
		before := []any{slices.Clone(listed), slices.Clone(parts), slices.Clone(coils), slices.Clone(needs)}
		once = append(once, wireAnswers(m))
		if after := []any{listed, parts, coils, needs}; !reflect.DeepEqual(before, after) {
			t.Error("an argument has changed", before, after)
		}
	}
	for i, m := range manyMade() {
		if again := wireAnswers(m); !reflect.DeepEqual(once[i], any(again)) {
			t.Error("results differ", m, again)
		}
	}
}

// spoil changes a list, and what lies behind its end.
func spoil[T any](bad T, l []T) {
	for i := range l {
		l[i] = bad
	}
	_ = append(l, bad, bad)
}

// TestNewMemory is for R4: results share no memory with arguments or with one another.
func TestNewMemory(t *testing.T) {
	m, l, a := usualMade(), works(), usual()
	answers := func() []any {
		draws, _ := mill.Draws(m.rules, m.from, m.to)
		coils, _ := mill.Share(m.coils, m.needs)
		had, _ := mill.Causes(l, a.lot)
		blamed, _ := mill.Culprits(l, a.bad, a.good)
		recalled, _ := mill.Recall(l, a.lots, a.cause)
		copies := []any{slices.Clone(draws), slices.Clone(coils), slices.Clone(had), slices.Clone(blamed), slices.Clone(recalled)}
		spoil(api.MillDraw{To: -1}, draws)
		spoil(-1, coils)
		spoil(coil(-1), had)
		spoil(coil(-1), blamed)
		spoil(-1, recalled)
		return copies
	}
	want := []any{drawn(900, 800, -700, 600), []int{0, 0, 1, 0}, []api.MillCause{coil(5), coil(6), die(2), hour(1, 9), hour(1, 10)}, []api.MillCause{coil(5), hour(1, 9), hour(1, 10)}, []int{0}}
	for range 2 {
		if got := answers(); !reflect.DeepEqual(got, want) {
			t.Error("results share memory", got, want)
		}
	}
	if !reflect.DeepEqual(m, usualMade()) || !reflect.DeepEqual(l, works()) || !reflect.DeepEqual(a, usual()) {
		t.Error("an argument has changed", m, l, a)
	}
}

// TestEmpty is for R3: a nil list and an empty one are the same.
func TestEmpty(t *testing.T) {
	full, none := usualMade(), usualMade()
	full.rules.Dies, full.parts, full.coils, full.needs = []int{}, []api.MillPart{}, []int{}, []int{}
	none.rules.Dies, none.parts, none.coils, none.needs = nil, nil, nil, nil
	if got, want := wireAnswers(full)[:3], wireAnswers(none)[:3]; !reflect.DeepEqual(got, want) {
		t.Error(got, want)
	}
	checkShare(t, []int{}, []int{}, nil, api.OK)
	checkShare(t, []int{}, nil, nil, api.OK)
	lists := []api.MillLot{}
	for _, l := range [][]api.MillRun{nil, {}} {
		if got, want := runAnswers(l, asked{lot: lot(1, 0, 5), bad: lists, good: lists, lots: lists, cause: coil(5)}), runAnswers(nil, asked{lot: lot(1, 0, 5), cause: coil(5)}); !reflect.DeepEqual(got, want) {
			t.Error(got, want)
		}
	}
	bad := []api.MillLot{lot(1, 9, 10)}
	checkCulprits(t, works(), bad, lists, []api.MillCause{coil(5), coil(6), die(2), hour(1, 9), hour(1, 10)}, api.OK)
	checkRecall(t, works(), lists, coil(5), nil, api.OK)
	checkNext(t, works(), bad, lists, bad, 0, 5, api.OK)
}

// TestFull is for R7: as much as there may be of all, with numbers as great as they can be.
func TestFull(t *testing.T) {
	l := shifts(60, 16)
	for number := range l {
		l[number] = run(1000, 99041+number*16, 99056+number*16, 1000, 1000)
	}
	most := full(lot(1000, 0, 100000), 40)
	var all []int
	for number := range 40 {
		all = append(all, number)
	}
	causes := append([]api.MillCause{coil(1000), die(1000)}, hours(1000, 99041, 100000)...)
	want := []any{api.OK, both(causes, api.OK), both(causes, api.OK), both(all, api.OK), pair(0, 962, api.OK)}
	if got := runAnswers(l, asked{lot: most[0], bad: most, good: full(lot(999, 0, 100000), 40), lots: most, cause: hour(1000, 100000)}); !reflect.DeepEqual(got, want) {
		t.Error(got, want)
	}
}
