package bolt_test

import (
	"reflect"
	"slices"
	"testing"

	"acme/api"
	"acme/bolt"
)

// both keeps a result and its error together, and pair keeps two.
func both[T any](value T, e api.Errno) any { return [2]any{value, e} }

func pair[T any](first, second T, e api.Errno) any { return [3]any{first, second, e} }

// allAnswers returns the results of all functions.
func allAnswers(b api.BoltKind, a asked) []any {
	return []any{
		bolt.Check(b), both(bolt.Torque(b, a.force, a.on)), both(bolt.Force(b, a.way)), both(bolt.Left(b, a.way, a.loss)), pair(bolt.Safe(b, a.way)),
		both(bolt.Right(b, a.want, a.wrong)), both(bolt.Best(b, a.ways, a.want)), pair(bolt.Holds(b)), both(bolt.Loosen(b, a.forces)), pair(bolt.Learn(b, a.torque, a.forces)),
	}
}

// TestTerminates is for P1: no function panics, whatever its arguments are.
func TestTerminates(t *testing.T) {
	for _, n := range extremes() {
		for _, m := range extremes() {
			s := span(n, m)
			strange := asked{force: n, on: [2]int{n, m}, loss: s, want: s, wrong: s, torque: s, forces: s}
			for how := range 5 {
				strange.ways = append(strange.ways, api.BoltWay{Kind: api.BoltHow(how), Torque: s}, api.BoltWay{Kind: api.BoltHow(how), Torque: s, Angle: s, Stretch: s}, byStretch(s), byAngle(just(0), s), api.BoltWay{Kind: api.BoltHow(n)})
			}
			for _, b := range []api.BoltKind{
				{}, example(), example(lead(n)), example(thread(n), head(m)), example(lead(n), thread(n), head(n)), example(onThread(s)), example(onHead(s)), example(stiff(s)), example(spring(s)), example(yield(s)),
				{Lead: n, Thread: m, Head: n, OnThread: s, OnHead: s, Stiff: s, Spring: s, Yield: s},
			} {
				for _, w := range strange.ways {
					a := strange
					a.way, a.ways = w, strange.ways[:20]
					allAnswers(b, a)
				}
				allAnswers(b, strange)
				allAnswers(b, usual())
			}
		}
	}
}

// manyAsks returns kinds of bolts and what they are asked, right and wrong.
func manyAsks() (kinds []api.BoltKind, asks []asked) {
	r := dice()
	kinds, asks = slices.Concat(goodKinds(), badKinds()[:20]), append(wrongAsked(), usual(), asked{})
	for range 50 {
		kinds = append(kinds, wideBolt(r), anyBolt(r))
		a := usual()
		a.way, a.ways = anyWay(r), []api.BoltWay{anyWay(r), wideWay(r), anyWay(r), anyWay(r), byTorque(just(0))}
		asks = append(asks, a)
	}
	return kinds, asks
}

// TestEqualResults is for P2 and R4: equal arguments have equal results, whatever was called before, and no argument is changed, nor what lies behind its end.
func TestEqualResults(t *testing.T) {
	kinds, asks := manyAsks()
	var once []any
	for _, b := range kinds {
		for _, a := range asks {
			behind := append(slices.Clone(a.ways), byTorque(just(97)), byTorque(just(98)))
			before := slices.Clone(behind)
			a.ways = behind[:len(a.ways)]
			once = append(once, allAnswers(b, a))
			if !slices.Equal(before, behind) {
				t.Error("an argument has changed", before, behind)
			}
		}
	}
	for i, b := range kinds {
		for k, a := range asks {
			if again := allAnswers(b, a); !reflect.DeepEqual(once[i*len(asks)+k], any(again)) {
				t.Error("results differ", b, a, again)
			}
		}
	}
}

// TestNewMemory is for R4: no two results of Best share memory.
func TestNewMemory(t *testing.T) {
	ways := []api.BoltWay{byStretch(just(2)), byStretch(span(0, 1)), byTorque(just(5))}
	list := func() []int {
		got, _ := bolt.Best(example(), ways, span(0, 1000))
		return got
	}
	first, second := list(), list()
	for i := range first {
		first[i] = -1
	}
	// What lies behind the end of a result is its own, too.
	_ = append(first, -1, -1, -1)
	if third := list(); !slices.Equal(second, []int{2, 0, 1}) || !slices.Equal(third, second) {
		t.Error("results share memory", second, third)
	}
}

// TestEmpty is for R3: a nil list and an empty one are the same.
func TestEmpty(t *testing.T) {
	for _, want := range []api.Span{span(0, 5), span(1, 0)} {
		got, e := bolt.Best(example(), []api.BoltWay{}, want)
		same, f := bolt.Best(example(), nil, want)
		if got != nil || same != nil || e != f {
			t.Error(got, e, same, f)
		}
	}
}

// TestFull is for R7: as much as there may be of all, with numbers as great as they can be.
func TestFull(t *testing.T) {
	b := api.BoltKind{Lead: 100000, Thread: 100000, Head: 100000, OnThread: span(0, 1000), OnHead: span(0, 1000), Stiff: just(100000000), Spring: just(100000), Yield: just(100000000)}
	const torque = 10000000000000
	a := asked{
		force: 100000000, on: [2]int{1000, 1000}, way: byAngle(just(torque), just(100000)), ways: slices.Repeat([]api.BoltWay{byTorque(just(torque))}, 20),
		loss: just(100000000), want: span(0, 100000000), wrong: span(-torque, 0), torque: span(0, torque), forces: span(0, 100000000),
	}
	twenty := []int{0, 1, 2, 3, 4, 5, 6, 7, 8, 9, 10, 11, 12, 13, 14, 15, 16, 17, 18, 19}
	want := []any{
		api.OK, both(30000000000000, api.OK), both(span(10033333333, 10100000000), api.OK), both(span(9933333333, 10000000000), api.OK), pair(false, false, api.OK),
		both(span(0, torque), api.OK), both(twenty, api.OK), pair(false, true, api.OK), both(span(0, torque), api.OK), pair(span(0, 1000), span(0, 1000), api.OK),
	}
	if got := allAnswers(b, a); !reflect.DeepEqual(got, want) {
		t.Error(got, want)
	}
}
