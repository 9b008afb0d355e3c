package bolt_test

import (
	"math"
	"testing"

	"acme/api"
	"acme/bolt"
)

// checkLearn reports what Learn does not return as it should; there is no truth if one of both spans has no integer.
func checkLearn(t *testing.T, b api.BoltKind, torque, force, onThread, onHead api.Span) {
	t.Helper()
	e := api.OK
	if onThread.Low > onThread.High || onHead.Low > onHead.High {
		onThread, onHead, e = api.Span{}, api.Span{}, api.ErrState
	}
	if gotThread, gotHead, f := bolt.Learn(b, torque, force); gotThread != onThread || gotHead != onHead || f != e {
		t.Error(b, torque, force, gotThread, gotHead, f, onThread, onHead, e)
	}
}

// TestLearnExample is for P9.10: the chapter's example 6, and others that are worked out by hand.
func TestLearnExample(t *testing.T) {
	b, torque := example(), just(66800000)
	checkLearn(t, b, torque, span(19000, 19500), span(100, 135), span(120, 145))
	// What is known already is not lost.
	checkLearn(t, b, torque, span(17350, 20000), b.OnThread, b.OnHead)
	checkLearn(t, b, torque, span(0, 100000000), b.OnThread, b.OnHead)
	checkLearn(t, b, span(0, 10000000000000), span(0, 100000000), b.OnThread, b.OnHead)
	checkLearn(t, b, span(0, 10000000000000), just(17), b.OnThread, b.OnHead)
	// Only the shortest arm has the greatest force, and only the longest one the smallest.
	checkLearn(t, b, torque, just(20000), just(100), just(120))
	checkLearn(t, b, torque, just(17350), just(160), just(150))
	checkLearn(t, b, torque, span(20000, 30000), just(100), just(120))
	checkLearn(t, b, torque, span(0, 17350), just(160), just(150))
	checkLearn(t, b, torque, span(20001, 30000), nothing(), nothing())
	checkLearn(t, b, torque, span(0, 17349), nothing(), nothing())
	checkLearn(t, b, just(0), just(0), b.OnThread, b.OnHead)
	checkLearn(t, b, just(0), span(1, 100000000), nothing(), nothing())
	checkLearn(t, b, just(3340), just(1), just(100), just(120))
	checkLearn(t, b, just(3339), just(1), nothing(), nothing())
	checkLearn(t, b, just(3339), just(0), b.OnThread, b.OnHead)
	checkLearn(t, b, just(3849), just(0), just(160), just(150))
	checkLearn(t, b, just(3850), just(0), nothing(), nothing())
	checkLearn(t, b, span(3850, 4000), span(0, 1), b.OnThread, b.OnHead)
}

// TestLearnGaps is for P9.10: not each arm between the shortest and the longest one is that of some frictions.
func TestLearnGaps(t *testing.T) {
	// Arms of 1000, 1003, 1006 and so on with the head alone; 1100, 1103 and so on with the thread, too.
	b := example(lead(1), thread(100), head(3), onThread(span(0, 9)), onHead(span(0, 10)))
	for _, c := range []struct {
		arm              int
		onThread, onHead api.Span
	}{
		{1000, just(0), just(0)}, {1001, nothing(), nothing()}, {1003, just(0), just(1)}, {1030, just(0), just(10)}, {1033, nothing(), nothing()}, {1099, nothing(), nothing()}, {1100, just(1), just(0)}, {1327, just(3), just(9)}, {1930, just(9), just(10)},
	} {
		// No other arm has this force with this torque.
		checkLearn(t, b, just(1000*c.arm), just(1000000), c.onThread, c.onHead)
	}
	// Two arms that are far apart: what is between them is in the span, too.
	far := example(lead(1), thread(100), head(50), onThread(span(0, 1)), onHead(span(0, 2)))
	checkLearn(t, far, just(1100*1000), just(1000000), span(0, 1), span(0, 2))
	checkLearn(t, far, just(1050*1000), just(1000000), just(0), just(1))
}

// TestLearnNoLength is for P9.10: a friction that does not count cannot be learned.
func TestLearnNoLength(t *testing.T) {
	b := example(lead(1), thread(0), head(10), onHead(span(0, 1000)), onThread(span(3, 500)))
	checkLearn(t, b, just(5000), just(1000), span(3, 500), just(400))
	checkLearn(t, b, just(5000), just(5000), span(3, 500), just(0))
	checkLearn(t, b, just(5000), just(5001), nothing(), nothing())
	c := example(lead(1), thread(10), head(0), onThread(span(0, 1000)), onHead(span(3, 500)))
	checkLearn(t, c, just(5000), just(1000), just(400), span(3, 500))
	checkLearn(t, c, just(5000), just(454), span(999, 1000), span(3, 500))
	checkLearn(t, c, just(5000), just(453), nothing(), nothing())
	d := example(arm(2))
	checkLearn(t, d, just(5000), just(2500), d.OnThread, d.OnHead)
	checkLearn(t, d, just(5001), just(2500), d.OnThread, d.OnHead)
	checkLearn(t, d, just(5002), just(2500), nothing(), nothing())
	checkLearn(t, d, just(4999), just(2500), nothing(), nothing())
}

// TestLearnGreat is for P9.10: as great as numbers can be.
func TestLearnGreat(t *testing.T) {
	long := example(lead(100000), thread(100000), head(100000), onThread(span(0, 1000)), onHead(span(0, 1000)))
	checkLearn(t, long, just(10000000000000), just(100000000), just(0), just(0))
	checkLearn(t, long, just(10000000000000), just(33333333), just(1000), just(1000))
	checkLearn(t, long, just(10000000000000), just(50000000), span(0, 1000), span(0, 1000))
	short := example(arm(1), head(100000), onHead(span(0, 1000)))
	checkLearn(t, short, just(10000000000000), span(0, 100000000), short.OnThread, just(1000))
	checkLearn(t, short, just(10000000000000), span(0, 99998999), nothing(), nothing())
	checkLearn(t, short, just(5000000000000), span(0, 100000000), short.OnThread, span(500, 1000))
	checkLearn(t, short, just(5000000000000), span(50000000, 100000000), short.OnThread, span(500, 999))
}

// searchedLearn returns the frictions in all truths in which a torque and a force lie in their spans.
func searchedLearn(b api.BoltKind, torque, force api.Span) (onThread, onHead api.Span) {
	onThread, onHead = span(math.MaxInt, math.MinInt), span(math.MaxInt, math.MinInt)
	b.Stiff, b.Spring, b.Yield = just(1), just(1), just(1)
	for now := range truths(b, byTorque(torque)) {
		if f := now.force(b, api.BoltTorque); f >= force.Low && f <= force.High {
			onThread = span(min(onThread.Low, now.onThread), max(onThread.High, now.onThread))
			onHead = span(min(onHead.Low, now.onHead), max(onHead.High, now.onHead))
		}
	}
	return onThread, onHead
}

// TestLearnSearch is for P9.10: all truths of bolts with some frictions.
func TestLearnSearch(t *testing.T) {
	r := dice()
	found := map[int]int{}
	for range 1500 {
		b := anyBolt(r)
		b.Thread, b.Head = r.IntN(400), r.IntN(400)
		b.OnThread, b.OnHead = part(r, span(0, 15)), part(r, span(0, 15))
		torque := few(r, 0, 500)
		low := 1000 * within(r, torque) / armOf(b, within(r, b.OnThread), within(r, b.OnHead))
		// Sometimes a force that none of these torques has.
		low += r.IntN(2) * r.IntN(10)
		force := span(low, low+r.IntN(3)*r.IntN(10))
		onThread, onHead := searchedLearn(b, torque, force)
		checkLearn(t, b, torque, force, onThread, onHead)
		switch {
		case onThread.Low > onThread.High:
			found[0]++
		case onThread != b.OnThread && onHead != b.OnHead:
			found[1]++
		}
	}
	if found[0] < 50 || found[1] < 200 {
		t.Error("few tell much of frictions", found)
	}
}

// TestLearnErrors is for P9.10's errors and their order, with each limit reached and passed by one.
func TestLearnErrors(t *testing.T) {
	fail := func(b api.BoltKind, torque, force api.Span) {
		t.Helper()
		if onThread, onHead, e := bolt.Learn(b, torque, force); onThread != span(0, 0) || onHead != span(0, 0) || e != api.ErrRange {
			t.Error(b, torque, force, onThread, onHead, e)
		}
	}
	for _, b := range goodKinds() {
		for _, s := range badSpans(0, 10000000000000) {
			fail(b, s, span(0, 100000000))
			fail(b, s, just(5))
			fail(b, s, span(1, 0))
		}
		for _, s := range badSpans(0, 100000000) {
			fail(b, span(0, 10000000000000), s)
			fail(b, just(0), s)
		}
	}
}
