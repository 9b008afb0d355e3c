package bolt_test

import (
	"slices"
	"testing"

	"acme/api"
	"acme/bolt"
)

// checkRight reports what Right does not return as it should; nothing is right if want's Low is above its High.
func checkRight(t *testing.T, b api.BoltKind, want, wrong, right api.Span) {
	t.Helper()
	e := api.OK
	if right.Low > right.High {
		right, e = api.Span{}, api.ErrState
	}
	if got, f := bolt.Right(b, want, wrong); got != right || f != e {
		t.Error(b, want, wrong, got, f, right, e)
	}
}

// nothing is a span without integers.
func nothing() api.Span { return span(1, 0) }

// TestRightExample is for P9.6: the examples 4 of the chapter and of the document, and others that are worked out by hand.
func TestRightExample(t *testing.T) {
	checkRight(t, example(), span(17000, 21000), span(-500000, 500000), span(65950000, 69643339))
	checkRight(t, example(), span(17000, 19000), span(-500000, 500000), nothing())
	checkRight(t, example(), span(17000, 21000), just(0), span(65450000, 70143339))
	checkRight(t, example(), span(17000, 21000), just(500000), span(64950000, 69643339))
	checkRight(t, example(), span(17000, 21000), just(-500000), span(65950000, 70643339))
	checkRight(t, example(), span(17000, 21000), span(-2346669, 2346670), span(67796669, 67796669))
	checkRight(t, example(), span(17000, 21000), span(-2346670, 2346670), nothing())
	// The yield holds back, its least force just not: a force may reach it.
	checkRight(t, example(), span(17000, 40000), just(0), span(65450000, 100203339))
	checkRight(t, example(yield(span(20000, 40000))), span(17000, 40000), just(0), span(65450000, 66803339))
	checkRight(t, example(yield(just(17000))), span(10000, 40000), just(0), span(38500000, 56783339))
	checkRight(t, example(arm(1), yield(just(17000))), just(17000), just(0), just(17000))
	checkRight(t, example(arm(1), yield(just(17000))), span(17001, 20000), just(0), nothing())
	checkRight(t, example(arm(1), yield(just(1))), span(100000000, 100000000), just(0), nothing())
	// No torque has just this force with all frictions.
	checkRight(t, example(), just(17000), just(0), nothing())
	checkRight(t, example(arm(7)), just(17000), just(0), span(119000, 119006))
	checkRight(t, example(arm(7)), just(17000), span(-3, 3), just(119003))
	checkRight(t, example(arm(7)), just(17000), span(-4, 3), nothing())
}

// TestRightZero is for P9.6: neither what is set nor what it truly is is below 0.
func TestRightZero(t *testing.T) {
	b := example(arm(7))
	checkRight(t, b, span(0, 10), just(0), span(0, 76))
	checkRight(t, b, span(0, 10), span(-5, 5), span(0, 71))
	checkRight(t, b, span(0, 10), span(-1000, 5), span(0, 71))
	checkRight(t, b, span(0, 10), span(-1000, -1000), span(0, 1076))
	checkRight(t, b, span(0, 10), span(5, 76), just(0))
	checkRight(t, b, span(0, 10), span(5, 77), nothing())
	checkRight(t, b, just(0), just(0), span(0, 6))
	checkRight(t, b, just(0), just(6), just(0))
	checkRight(t, b, just(0), just(7), nothing())
	checkRight(t, b, just(0), span(-10, 0), span(0, 6))
	// If a force is wanted, 0 is not enough.
	checkRight(t, b, span(1, 10), span(-5, 5), span(12, 71))
	checkRight(t, b, span(1, 10), span(7, 8), span(0, 68))
	checkRight(t, b, span(1, 10), span(6, 8), span(1, 68))
	checkRight(t, b, span(1, 10), span(100, 100), nothing())
	checkRight(t, b, span(1, 10), span(10, 76), just(0))
	checkRight(t, example(arm(1)), span(1, 10), just(0), span(1, 10))
	checkRight(t, example(arm(1)), span(1, 10), span(-1, 1), span(2, 9))
}

// TestRightGreat is for P9.6: no torque that is set is above the limit, but what it truly is may be.
func TestRightGreat(t *testing.T) {
	const most = 10000000000000
	long := example(lead(100000), thread(100000), head(100000), onThread(just(1000)), onHead(just(1000)), yield(just(100000000)))
	checkRight(t, long, span(0, 100000000), just(0), span(0, most))
	checkRight(t, long, span(1, 100000000), just(0), span(300000, most))
	checkRight(t, long, span(1, 100000000), span(-most, most), nothing())
	checkRight(t, long, span(0, 100000000), span(-most, most), span(0, most))
	checkRight(t, long, span(33333333, 33333333), just(0), span(9999999900000, most))
	checkRight(t, long, span(33333334, 100000000), just(0), nothing())
	checkRight(t, long, just(66666666), just(most), span(9999999800000, most))
	checkRight(t, long, just(66666667), just(most), nothing())
	checkRight(t, long, just(0), just(-most), span(0, most))
	checkRight(t, long, just(1), just(-most), nothing())
	checkRight(t, long, span(0, 1), just(-300000), span(0, 899999))
	checkRight(t, example(arm(1), yield(just(100000000))), just(100000000), just(0), just(100000000))
	checkRight(t, example(arm(1), yield(just(100000000))), just(100000000), just(-most+100000000), just(most))
	checkRight(t, example(arm(1), yield(just(100000000))), just(100000000), just(-most+99999999), nothing())
}

// searchedRight returns all torques that are right, by looking at all truths of each.
func searchedRight(t *testing.T, b api.BoltKind, want, wrong api.Span) api.Span {
	const most = 800
	var good []bool
	for torque := range most {
		w := byTorque(just(torque))
		good = append(good, sure(b, w.Kind, want, truths(b, w)))
	}
	right, gap := nothing(), false
	for set := range most / 2 {
		lacks := slices.ContainsFunc([]int{set + wrong.Low, set + wrong.High}, func(torque int) bool { return torque >= most })
		for by := wrong.Low; by <= wrong.High; by++ {
			lacks = lacks || !good[max(set+by, 0)]
		}
		if lacks {
			gap = right.Low <= right.High
			continue
		}
		if gap {
			t.Error("what is right has a gap", b, want, wrong)
		}
		if right.Low > right.High {
			right.Low = set
		}
		right.High = set
	}
	return right
}

// TestRightSearch is for P9.6: all truths of small bolts, for each torque.
func TestRightSearch(t *testing.T) {
	r := dice()
	found := map[bool]int{}
	for range 300 {
		b := anyBolt(r)
		b.OnThread, b.OnHead = few(r, 0, 30), few(r, 0, 30)
		want := span(0, 5+r.IntN(25))
		if r.IntN(3) > 0 {
			want.Low = r.IntN(want.High)
		}
		wrong := part(r, span(-20, 20))
		right := searchedRight(t, b, want, wrong)
		checkRight(t, b, want, wrong, right)
		found[right.Low <= right.High]++
	}
	if found[true] < 50 || found[false] < 30 {
		t.Error("few have, or have not, a right torque", found)
	}
}

// TestRightErrors is for P9.6's errors and their order, with each limit reached and passed by one.
func TestRightErrors(t *testing.T) {
	fail := func(b api.BoltKind, want, wrong api.Span) {
		t.Helper()
		if got, e := bolt.Right(b, want, wrong); got != span(0, 0) || e != api.ErrRange {
			t.Error(b, want, wrong, got, e)
		}
	}
	for _, b := range goodKinds() {
		for _, s := range badSpans(0, 100000000) {
			fail(b, s, just(0))
			fail(b, s, just(10000000000000))
			fail(b, s, span(1, 0))
		}
		for _, s := range badSpans(-10000000000000, 10000000000000) {
			fail(b, span(0, 100000000), s)
			// No torque has just this force.
			fail(b, just(100000000), s)
		}
	}
}

// checkBest reports what Best does not return as it should; there is none if no number is wanted.
func checkBest(t *testing.T, b api.BoltKind, ways []api.BoltWay, want api.Span, numbers ...int) {
	t.Helper()
	e := api.OK
	if len(numbers) == 0 {
		e = api.ErrNone
	}
	if got, f := bolt.Best(b, ways, want); !slices.Equal(got, numbers) || f != e {
		t.Error(b, ways, want, got, f, numbers, e)
	}
}

// TestBestExample is for P9.7, with the forces of the chapter's examples: 17350 to 20000, 17597 to 21743 and 17100 to 22000.
func TestBestExample(t *testing.T) {
	torque, angle, stretch := byTorque(just(66800000)), byAngle(span(10000000, 10500000), span(300, 310)), byStretch(span(190, 200))
	checkBest(t, example(), []api.BoltWay{stretch, angle, torque}, span(17000, 22000), 2, 1, 0)
	checkBest(t, example(), []api.BoltWay{torque, stretch, angle, torque}, span(17000, 22000), 0, 3, 2, 1)
	checkBest(t, example(), []api.BoltWay{angle, angle, torque, torque, angle}, span(0, 100000000), 2, 3, 0, 1, 4)
	// The ends of what is wanted are wanted.
	checkBest(t, example(), []api.BoltWay{stretch, angle, torque}, span(17100, 22000), 2, 1, 0)
	checkBest(t, example(), []api.BoltWay{stretch, angle, torque}, span(17101, 22000), 2, 1)
	checkBest(t, example(), []api.BoltWay{stretch, angle, torque}, span(17100, 21999), 2, 1)
	checkBest(t, example(), []api.BoltWay{stretch, angle, torque}, span(17350, 21743), 2, 1)
	checkBest(t, example(), []api.BoltWay{stretch, angle, torque}, span(17351, 21743), 1)
	checkBest(t, example(), []api.BoltWay{stretch, angle, torque}, span(17598, 22000))
	checkBest(t, example(), []api.BoltWay{stretch, angle, torque}, span(17000, 19999))
	checkBest(t, example(), []api.BoltWay{stretch, angle, torque}, just(18000))
	// No bolt is beyond its yield.
	checkBest(t, example(yield(span(22000, 33000))), []api.BoltWay{stretch, angle, torque}, span(0, 100000000), 2, 1, 0)
	checkBest(t, example(yield(span(21999, 33000))), []api.BoltWay{stretch, angle, torque}, span(0, 100000000), 2, 1)
	checkBest(t, example(yield(span(20000, 33000))), []api.BoltWay{stretch, angle, torque}, span(0, 100000000), 2)
	checkBest(t, example(yield(span(19999, 33000))), []api.BoltWay{stretch, angle, torque}, span(0, 100000000))
	checkBest(t, example(), nil, span(0, 100000000))
	// A narrow force is the best one, wherever it lies.
	checkBest(t, example(), []api.BoltWay{torque, byTorque(just(0)), byAngle(just(0), span(0, 1)), byStretch(just(0)), byStretch(just(1))}, span(0, 20000), 1, 3, 4, 2, 0)
	// Forces beyond all that can be wanted.
	checkBest(t, example(arm(1), yield(just(100000000))), []api.BoltWay{byTorque(just(100000001)), byTorque(just(100000000)), byTorque(just(10000000000000))}, span(0, 100000000), 1)
}

// TestBestSearch is for P9.7: all truths of small bolts, for each way.
func TestBestSearch(t *testing.T) {
	r := dice()
	found := 0
	for range 600 {
		b, want := anyBolt(r), part(r, span(0, 60))
		want.Low = r.IntN(want.Low + 1)
		var ways []api.BoltWay
		for range r.IntN(21) {
			ways = append(ways, anyWay(r))
		}
		// Ways with the same width come in the order of their numbers.
		byWidth := map[int][]int{}
		for number, w := range ways {
			if all := truths(b, w); sure(b, w.Kind, want, all) {
				force := forcesOf(b, w.Kind, all)
				byWidth[force.High-force.Low] = append(byWidth[force.High-force.Low], number)
			}
		}
		var numbers []int
		for width := range 100000 {
			numbers = append(numbers, byWidth[width]...)
		}
		checkBest(t, b, ways, want, numbers...)
		if len(numbers) > 1 && len(byWidth) > 1 {
			found++
		}
	}
	if found < 50 {
		t.Error("few have ways of several widths", found)
	}
}

// TestBestErrors is for P9.7's errors and their order, with each limit reached and passed by one.
func TestBestErrors(t *testing.T) {
	good := byTorque(just(0))
	fail := func(ways []api.BoltWay, want api.Span, e api.Errno) {
		t.Helper()
		for _, b := range []api.BoltKind{example(), example(arm(1)), example(lead(100000))} {
			if got, f := bolt.Best(b, ways, want); got != nil || f != e {
				t.Error(b, ways, want, got, f, e)
			}
		}
	}
	many := slices.Repeat([]api.BoltWay{good}, 20)
	checkBest(t, example(), many, just(0), 0, 1, 2, 3, 4, 5, 6, 7, 8, 9, 10, 11, 12, 13, 14, 15, 16, 17, 18, 19)
	for _, want := range append(badSpans(0, 100000000), just(0), just(5)) {
		fail(append(many, good), want, api.ErrLong)
		fail(append(many, api.BoltWay{}), want, api.ErrLong)
		fail(make([]api.BoltWay, 21), want, api.ErrLong)
		fail(make([]api.BoltWay, 5000), want, api.ErrLong)
		for _, bad := range badWays() {
			fail([]api.BoltWay{bad}, want, api.ErrArg)
			fail([]api.BoltWay{bad, good}, want, api.ErrArg)
			fail(append(slices.Clone(many[1:]), bad), want, api.ErrArg)
		}
	}
	for _, want := range badSpans(0, 100000000) {
		fail(nil, want, api.ErrRange)
		fail([]api.BoltWay{good}, want, api.ErrRange)
		fail(many, want, api.ErrRange)
	}
	fail(nil, span(0, 100000000), api.ErrNone)
	fail(many, span(1, 100000000), api.ErrNone)
	for _, ways := range [][]api.BoltWay{goodWays(), {byTorque(just(0))}} {
		for _, want := range []api.Span{just(0), span(0, 100000000)} {
			if got, e := bolt.Best(example(), ways, want); len(got) == 0 || e != api.OK {
				t.Error(ways, want, got, e)
			}
		}
	}
}
