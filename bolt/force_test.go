package bolt_test

import (
	"testing"

	"acme/api"
	"acme/bolt"
)

// checkForce reports what Force does not return as it should.
func checkForce(t *testing.T, b api.BoltKind, w api.BoltWay, low, high int) {
	t.Helper()
	if got, e := bolt.Force(b, w); got != span(low, high) || e != api.OK {
		t.Error(b, w, got, e, low, high)
	}
}

// TestForceExample is for P9.3: the examples 1 to 3 of the chapter, and 4 of the document.
func TestForceExample(t *testing.T) {
	checkForce(t, example(), byTorque(just(66800000)), 17350, 20000)
	checkForce(t, example(), byAngle(span(10000000, 10500000), span(300, 310)), 17597, 21743)
	checkForce(t, example(), byStretch(span(190, 200)), 17100, 22000)
	checkForce(t, example(), byTorque(just(105000000)), 27272, 31437)
	checkForce(t, example(), byTorque(just(100200000)), 26025, 30000)
	checkForce(t, example(), byTorque(just(100300001)), 26051, 30029)
}

// TestForceByHand is for P9.3: each quotient is rounded down by itself, and each field has its own way.
func TestForceByHand(t *testing.T) {
	fixed := example(arm(3), stiff(just(1500)), spring(just(7)))
	checkForce(t, fixed, byTorque(just(0)), 0, 0)
	checkForce(t, fixed, byTorque(just(2)), 0, 0)
	checkForce(t, fixed, byTorque(just(3)), 1, 1)
	checkForce(t, fixed, byTorque(span(2, 3)), 0, 1)
	checkForce(t, fixed, byTorque(span(5, 6)), 1, 2)
	// 5/3 and 1.5 are 3.16 together, but 1 and 1 each by itself.
	checkForce(t, fixed, byAngle(just(5), just(1)), 2, 2)
	checkForce(t, fixed, byAngle(just(0), just(0)), 0, 0)
	checkForce(t, fixed, byAngle(just(6), just(0)), 2, 2)
	checkForce(t, fixed, byAngle(just(0), just(1)), 1, 1)
	checkForce(t, fixed, byAngle(just(0), span(1, 2)), 1, 3)
	checkForce(t, fixed, byStretch(just(0)), 0, 0)
	checkForce(t, fixed, byStretch(span(1, 11)), 7, 77)
	// All that has a span counts, each by itself.
	one := example(arm(1), thread(1), onThread(span(0, 1000)), onHead(just(1000)), stiff(span(1, 2000)), spring(span(2, 5)))
	checkForce(t, one, byTorque(just(100)), 50, 100)
	checkForce(t, example(arm(1), head(1), onHead(span(0, 1000)), onThread(just(1000))), byTorque(just(100)), 50, 100)
	checkForce(t, one, byAngle(just(100), just(1000)), 51, 2100)
	checkForce(t, one, byAngle(just(100), just(999)), 50, 2098)
	checkForce(t, one, byStretch(span(3, 4)), 6, 20)
	// The yield does not hold a force back.
	checkForce(t, example(arm(1), yield(just(1))), byTorque(just(100)), 100, 100)
}

// TestForceGreat is for P9.3: as great as numbers can be.
func TestForceGreat(t *testing.T) {
	short, long := example(arm(1), stiff(just(100000000)), spring(just(100000))), example(lead(100000), thread(100000), head(100000), onThread(just(1000)), onHead(just(1000)))
	checkForce(t, short, byTorque(just(10000000000000)), 10000000000000, 10000000000000)
	checkForce(t, long, byTorque(just(10000000000000)), 33333333, 33333333)
	checkForce(t, short, byAngle(just(10000000000000), just(100000)), 10010000000000, 10010000000000)
	checkForce(t, short, byStretch(just(100000)), 10000000000, 10000000000)
	checkForce(t, example(onThread(span(0, 1000)), onHead(span(0, 1000)), stiff(span(1, 100000000))), byAngle(span(0, 10000000000000), span(0, 100000)), 0, 15000000000)
}

// TestForceSearch is for P9.3: all truths of small bolts.
func TestForceSearch(t *testing.T) {
	r := dice()
	found := map[api.BoltHow]int{}
	for range 3000 {
		b, w := anyBolt(r), anyWay(r)
		want := forcesOf(b, w.Kind, truths(b, w))
		checkForce(t, b, w, want.Low, want.High)
		if want.Low < want.High {
			found[w.Kind]++
		}
	}
	for how := api.BoltTorque; how <= api.BoltStretch; how++ {
		if found[how] < 200 {
			t.Error("few have forces that differ", how, found)
		}
	}
}

// TestLeftExample is for P9.4: the chapter's example 3, and others that are worked out by hand.
func TestLeftExample(t *testing.T) {
	for i, c := range []struct {
		way        api.BoltWay
		loss, want api.Span
	}{
		{byTorque(just(66800000)), span(500, 1000), span(16350, 19500)}, {byTorque(just(66800000)), just(0), span(17350, 20000)}, {byTorque(just(66800000)), span(0, 5), span(17345, 20000)},
		// A force does not fall below 0.
		{byTorque(just(66800000)), span(0, 17350), span(0, 20000)}, {byTorque(just(66800000)), span(0, 17351), span(0, 20000)}, {byTorque(just(66800000)), just(20000), span(0, 0)}, {byTorque(just(66800000)), just(19999), span(0, 1)}, {byTorque(just(66800000)), just(20001), span(0, 0)}, {byTorque(just(66800000)), just(100000000), span(0, 0)}, {byTorque(just(66800000)), span(0, 100000000), span(0, 20000)},
		{byTorque(just(0)), just(0), span(0, 0)}, {byTorque(just(0)), just(1), span(0, 0)},
		{byAngle(span(10000000, 10500000), span(300, 310)), just(17597), span(0, 4146)}, {byStretch(span(190, 200)), span(100, 1100), span(16000, 21900)},
	} {
		if got, e := bolt.Left(example(), c.way, c.loss); got != c.want || e != api.OK {
			t.Error(i, got, e, c)
		}
	}
}

// TestLeftSearch is for P9.4: all truths of small bolts, and all losses.
func TestLeftSearch(t *testing.T) {
	r := dice()
	found := map[bool]int{}
	for range 600 {
		b, w, loss := anyBolt(r), anyWay(r), few(r, 0, 20)
		loss.High += r.IntN(10)
		want := span(1<<40, -1)
		for now := range truths(b, w) {
			for by := loss.Low; by <= loss.High; by++ {
				left := max(now.force(b, w.Kind)-by, 0)
				want = span(min(want.Low, left), max(want.High, left))
			}
		}
		if got, e := bolt.Left(b, w, loss); got != want || e != api.OK {
			t.Error(b, w, loss, got, e, want)
		}
		found[want.High > 0]++
	}
	if found[true] < 100 || found[false] < 50 {
		t.Error("few have, or have not, a force left", found)
	}
}

// TestLeftErrors is for P9.4's errors.
func TestLeftErrors(t *testing.T) {
	for _, b := range goodKinds() {
		for _, w := range goodWays() {
			for _, s := range badSpans(0, 100000000) {
				if got, e := bolt.Left(b, w, s); got != span(0, 0) || e != api.ErrRange {
					t.Error(b, w, s, got, e)
				}
			}
			for _, s := range []api.Span{just(0), just(100000000), span(0, 100000000)} {
				if _, e := bolt.Left(b, w, s); e != api.OK {
					t.Error(b, w, s, e)
				}
			}
		}
	}
}

// TestSafeExample is for P9.5: the chapter's example 3, and yields that are reached or passed by one.
func TestSafeExample(t *testing.T) {
	for i, c := range []struct {
		way              api.BoltWay
		yield            api.Span
		surely, possibly bool
	}{
		{byTorque(just(66800000)), span(30000, 33000), true, true}, {byTorque(just(105000000)), span(30000, 33000), false, true},
		{byTorque(just(66800000)), span(20000, 33000), true, true}, {byTorque(just(66800000)), span(19999, 33000), false, true}, {byTorque(just(66800000)), just(20000), true, true}, {byTorque(just(66800000)), just(19999), false, true},
		{byTorque(just(66800000)), just(17350), false, true}, {byTorque(just(66800000)), just(17349), false, false}, {byTorque(just(66800000)), span(1, 17349), false, false}, {byTorque(just(66800000)), span(1, 17350), false, true}, {byTorque(just(66800000)), span(1, 100000000), false, true},
		{byTorque(just(0)), just(1), true, true}, {byStretch(just(0)), just(1), true, true}, {byStretch(span(190, 200)), just(22000), true, true}, {byStretch(span(190, 200)), just(21999), false, true}, {byStretch(span(190, 200)), just(17099), false, false},
		{byAngle(span(10000000, 10500000), span(300, 310)), just(21743), true, true}, {byAngle(span(10000000, 10500000), span(300, 310)), just(21742), false, true}, {byAngle(span(10000000, 10500000), span(300, 310)), just(17596), false, false},
	} {
		if surely, possibly, e := bolt.Safe(example(yield(c.yield)), c.way); surely != c.surely || possibly != c.possibly || e != api.OK {
			t.Error(i, surely, possibly, e, c)
		}
	}
}

// TestSafeSearch is for P9.5: all truths of small bolts.
func TestSafeSearch(t *testing.T) {
	r := dice()
	found := map[[2]bool]int{}
	for range 1500 {
		b, w := anyBolt(r), anyWay(r)
		wantSurely, wantPossibly := true, false
		for now := range truths(b, w) {
			within := now.force(b, w.Kind) <= now.yield
			wantSurely, wantPossibly = wantSurely && within, wantPossibly || within
		}
		if surely, possibly, e := bolt.Safe(b, w); surely != wantSurely || possibly != wantPossibly || e != api.OK {
			t.Error(b, w, surely, possibly, e)
		}
		found[[2]bool{wantSurely, wantPossibly}]++
	}
	if found[[2]bool{true, true}] < 100 || found[[2]bool{false, true}] < 50 || found[[2]bool{false, false}] < 100 {
		t.Error("few are safe, or not", found)
	}
}
