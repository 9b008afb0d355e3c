package bolt_test

import (
	"math"
	"testing"

	"acme/api"
	"acme/bolt"
)

// goodKinds returns kinds of bolts that are as they should be, with each limit reached.
func goodKinds() []api.BoltKind {
	return []api.BoltKind{
		example(), example(lead(1)), example(lead(100000)), example(thread(0)), example(thread(100000)), example(head(0)), example(head(100000)), example(arm(1)), example(arm(100000)), example(lead(100000), thread(100000), head(100000)),
		example(onThread(span(0, 1000))), example(onThread(just(0))), example(onThread(just(1000))), example(onHead(span(0, 1000))), example(onHead(just(0))), example(onHead(just(1000))), example(onThread(span(0, 1000)), onHead(span(0, 1000))),
		example(stiff(span(1, 100000000))), example(stiff(just(1))), example(stiff(just(100000000))), example(spring(span(1, 100000))), example(spring(just(1))), example(spring(just(100000))), example(yield(span(1, 100000000))), example(yield(just(1))), example(yield(just(100000000))),
	}
}

// badKinds returns kinds of bolts with an error, each alone.
func badKinds() []api.BoltKind {
	l := []api.BoltKind{{}, example(lead(0))}
	for _, n := range outside(0, 100000) {
		l = append(l, example(lead(n)), example(thread(n)), example(head(n)))
	}
	for _, s := range badSpans(0, 1000) {
		l = append(l, example(onThread(s)), example(onHead(s)), example(arm(5), onThread(s)), example(arm(5), onHead(s)))
	}
	for _, s := range badSpans(1, 100000000) {
		l = append(l, example(stiff(s)), example(yield(s)))
	}
	for _, s := range badSpans(1, 100000) {
		l = append(l, example(spring(s)))
	}
	return l
}

// TestCheck is for P9.1.
func TestCheck(t *testing.T) {
	for _, b := range goodKinds() {
		if e := bolt.Check(b); e != api.OK {
			t.Error(b, e)
		}
	}
	for _, b := range badKinds() {
		if e := bolt.Check(b); e != api.ErrArg {
			t.Error(b, e)
		}
	}
}

// goodWays returns ways that are as they should be, with each limit reached.
func goodWays() []api.BoltWay {
	const torque, angle, stretch = 10000000000000, 100000, 100000
	return []api.BoltWay{
		byTorque(just(0)), byTorque(just(66800000)), byTorque(span(0, torque)), byTorque(just(torque)),
		byAngle(just(0), just(0)), byAngle(span(10000000, 10500000), span(300, 310)), byAngle(span(0, torque), span(0, angle)), byAngle(just(torque), just(angle)), byAngle(just(0), just(angle)), byAngle(just(torque), just(0)),
		byStretch(just(0)), byStretch(span(190, 200)), byStretch(span(0, stretch)), byStretch(just(stretch)),
	}
}

// badWays returns ways with an error, each alone.
func badWays() []api.BoltWay {
	l := []api.BoltWay{{}}
	for _, how := range outside(1, 3) {
		l = append(l, api.BoltWay{Kind: api.BoltHow(how)}, api.BoltWay{Kind: api.BoltHow(how), Torque: just(66800000)})
	}
	for _, s := range badSpans(0, 10000000000000) {
		l = append(l, byTorque(s), byAngle(s, just(300)))
	}
	for _, s := range badSpans(0, 100000) {
		l = append(l, byAngle(just(66800000), s), byStretch(s))
	}
	// What a kind of way has not is zero.
	for _, s := range []api.Span{just(1), span(0, 1), span(1, 0), span(-1, 0), just(-1), span(0, 100000), span(math.MinInt, math.MaxInt)} {
		l = append(l,
			api.BoltWay{Kind: api.BoltTorque, Torque: just(5), Angle: s}, api.BoltWay{Kind: api.BoltTorque, Torque: just(5), Stretch: s}, api.BoltWay{Kind: api.BoltAngle, Torque: just(5), Angle: just(5), Stretch: s},
			api.BoltWay{Kind: api.BoltStretch, Stretch: just(5), Torque: s}, api.BoltWay{Kind: api.BoltStretch, Stretch: just(5), Angle: s},
		)
	}
	return l
}

// asked is all that is asked of a kind of bolt.
type asked struct {
	force                             int
	on                                [2]int
	way                               api.BoltWay
	ways                              []api.BoltWay
	loss, want, wrong, torque, forces api.Span
}

// usual returns what the bolt of the examples can be asked, and most others, too.
func usual() asked {
	return asked{
		force: 20000, on: [2]int{100, 120}, way: byTorque(just(66800000)), ways: []api.BoltWay{byStretch(just(0)), byTorque(just(0))},
		loss: span(500, 1000), want: span(0, 100000000), wrong: span(-500000, 0), torque: span(0, 10000000000000), forces: span(0, 100000000),
	}
}

// wrongAsked returns what no bolt can be asked, but for the ways.
func wrongAsked() []asked {
	good := usual()
	bad := asked{force: -1, on: [2]int{-1, 1001}, way: good.way, ways: make([]api.BoltWay, 21), loss: span(1, 0), want: span(1, 0), wrong: span(1, 0), torque: span(1, 0), forces: span(1, 0)}
	far := asked{force: math.MaxInt, on: [2]int{math.MinInt, math.MaxInt}, way: good.way, ways: []api.BoltWay{{}}, loss: span(0, 100000001), want: span(-1, 0), wrong: span(-10000000000001, 0), torque: span(0, 10000000000001), forces: span(0, 100000001)}
	return []asked{bad, far}
}

// answer is whether all results are zero values, and the error.
type answer struct {
	zero bool
	e    api.Errno
}

func failed(e api.Errno) answer { return answer{zero: true, e: e} }

func valueAnswer[T comparable](value T, e api.Errno) answer {
	var zero T
	return answer{zero: value == zero, e: e}
}

func pairAnswer[T comparable](first, second T, e api.Errno) answer {
	return valueAnswer([2]T{first, second}, e)
}

func listAnswer(l []int, e api.Errno) answer { return answer{zero: l == nil, e: e} }

// wayAnswers returns what all functions with one way answer.
func wayAnswers(b api.BoltKind, a asked) map[string]answer {
	return map[string]answer{
		"Force": valueAnswer(bolt.Force(b, a.way)),
		"Left":  valueAnswer(bolt.Left(b, a.way, a.loss)),
		"Safe":  pairAnswer(bolt.Safe(b, a.way)),
	}
}

// answers returns what all functions answer.
func answers(b api.BoltKind, a asked) map[string]answer {
	l := wayAnswers(b, a)
	l["Check"] = failed(bolt.Check(b))
	l["Torque"] = valueAnswer(bolt.Torque(b, a.force, a.on))
	l["Right"] = valueAnswer(bolt.Right(b, a.want, a.wrong))
	l["Best"] = listAnswer(bolt.Best(b, a.ways, a.want))
	l["Holds"] = pairAnswer(bolt.Holds(b))
	l["Loosen"] = valueAnswer(bolt.Loosen(b, a.forces))
	l["Learn"] = pairAnswer(bolt.Learn(b, a.torque, a.forces))
	return l
}

// TestKindFirst is for P9.1, P1 and R2: the error of a kind of bolt comes before all others, and with it the results are zero.
func TestKindFirst(t *testing.T) {
	for _, b := range badKinds() {
		for i, a := range append(wrongAsked(), usual()) {
			for _, w := range []api.BoltWay{a.way, {}, byStretch(span(1, 0))} {
				a.way = w
				for name, got := range answers(b, a) {
					if got != failed(api.ErrArg) {
						t.Error(name, b, i, w, got)
					}
				}
			}
		}
	}
	for _, b := range goodKinds() {
		for name, got := range answers(b, usual()) {
			if got.e != api.OK {
				t.Error(name, b, got)
			}
		}
	}
}

// TestWays is for P9.1, P1 and R2: the error of a way comes next, and with it the results are zero.
func TestWays(t *testing.T) {
	for _, w := range badWays() {
		for _, a := range append(wrongAsked(), usual()) {
			a.way = w
			for _, b := range goodKinds() {
				for name, got := range wayAnswers(b, a) {
					if got != failed(api.ErrArg) {
						t.Error(name, b, w, got)
					}
				}
			}
		}
	}
	for _, w := range goodWays() {
		for _, b := range goodKinds() {
			a := usual()
			a.way = w
			for name, got := range wayAnswers(b, a) {
				if got.e != api.OK {
					t.Error(name, b, w, got)
				}
			}
		}
	}
}
