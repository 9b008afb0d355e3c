package bolt_test

import (
	"testing"

	"acme/api"
	"acme/bolt"
)

// TestHoldsExample is for P9.8: the chapter's example 5, and bolts that just hold or do not.
func TestHoldsExample(t *testing.T) {
	for i, c := range []struct {
		kind             api.BoltKind
		surely, possibly bool
	}{
		{example(), false, false}, {example(lead(1500)), false, true},
		// Frictions take 1340000 to 1850000.
		{example(lead(1850)), false, false}, {example(lead(1849)), false, true}, {example(lead(1341)), false, true}, {example(lead(1340)), false, true}, {example(lead(1339)), true, true}, {example(lead(1)), true, true},
		// To be as great is not to be greater.
		{example(lead(1), thread(1), head(0), onThread(just(1000))), false, false}, {example(lead(1), thread(1), head(1), onThread(just(1000)), onHead(span(0, 1))), false, true}, {example(lead(1), thread(1), head(1), onThread(just(1000)), onHead(just(1))), true, true}, {example(lead(1), thread(0), head(1), onHead(just(1000))), false, false}, {example(lead(1), thread(0), head(2), onHead(span(500, 501))), false, true}, {example(lead(1), thread(0), head(2), onHead(just(501))), true, true},
		{example(arm(1)), false, false}, {example(arm(100000)), false, false}, {example(onThread(just(0)), onHead(just(0))), false, false}, {example(lead(100000), thread(100000), head(100000), onThread(span(0, 1000)), onHead(span(0, 1000))), false, true}, {example(lead(100000), thread(100000), head(100000), onThread(just(1000)), onHead(just(1000))), true, true},
	} {
		if surely, possibly, e := bolt.Holds(c.kind); surely != c.surely || possibly != c.possibly || e != api.OK {
			t.Error(i, surely, possibly, e, c)
		}
	}
}

// checkLoosen reports what Loosen does not return as it should.
func checkLoosen(t *testing.T, b api.BoltKind, force api.Span, low, high int) {
	t.Helper()
	if got, e := bolt.Loosen(b, force); got != span(low, high) || e != api.OK {
		t.Error(b, force, got, e, low, high)
	}
}

// TestLoosenExample is for P9.9: the chapter's example 5, and others that are worked out by hand.
func TestLoosenExample(t *testing.T) {
	checkLoosen(t, example(lead(1500)), span(10000, 20000), 0, 7000000)
	checkLoosen(t, example(), span(10000, 20000), 0, 0)
	checkLoosen(t, example(lead(1000)), span(10000, 20000), 3400000, 17000000)
	checkLoosen(t, example(lead(1000)), span(0, 20000), 0, 17000000)
	checkLoosen(t, example(lead(1000)), just(0), 0, 0)
	// A torque is rounded up.
	tight := example(lead(1), thread(1), head(1), onThread(just(1000)), onHead(span(1, 999)))
	checkLoosen(t, tight, just(1), 1, 1)
	checkLoosen(t, tight, just(2), 1, 2)
	checkLoosen(t, tight, span(1000, 1001), 1, 1000)
	checkLoosen(t, tight, span(1001, 2000), 2, 1998)
	checkLoosen(t, example(lead(1), thread(1), head(1), onThread(just(1000)), onHead(just(0))), span(0, 100000000), 0, 0)
	// One that holds by itself in some truths, and in others not.
	checkLoosen(t, example(lead(1), thread(2), head(0), onThread(span(0, 501))), just(1000), 0, 2)
	checkLoosen(t, example(lead(100000), thread(100000), head(100000), onThread(just(1000)), onHead(span(0, 1000))), span(0, 100000000), 0, 10000000000000)
	checkLoosen(t, example(lead(1), thread(100000), head(100000), onThread(just(1000)), onHead(just(1000))), just(100000000), 19999900000000, 19999900000000)
}

// TestLoosenSearch is for P9.8 and P9.9: all truths of small bolts, and all forces.
func TestLoosenSearch(t *testing.T) {
	r := dice()
	found := map[[2]bool]int{}
	for range 1500 {
		b, force := anyBolt(r), few(r, 0, 3000)
		if r.IntN(2) > 0 {
			// Frictions with which it just holds, or does not.
			b.Thread, b.Head = b.Lead+r.IntN(50), 0
			level := 1000 * b.Lead / b.Thread
			b.OnThread = few(r, max(level-2, 0), min(level+2, 1000))
		}
		wantSurely, wantPossibly, want := true, false, span(1<<40, -1)
		for now := range truths(b, api.BoltWay{Torque: force}) {
			grip := b.Thread*now.onThread + b.Head*now.onHead - 1000*b.Lead
			wantSurely, wantPossibly = wantSurely && grip > 0, wantPossibly || grip > 0
			torque := 0
			for grip > 0 && 1000*torque < now.torque*grip {
				torque = max(torque+1, now.torque*grip/1000)
			}
			want = span(min(want.Low, torque), max(want.High, torque))
		}
		checkLoosen(t, b, force, want.Low, want.High)
		if surely, possibly, e := bolt.Holds(b); surely != wantSurely || possibly != wantPossibly || e != api.OK {
			t.Error(b, surely, possibly, e)
		}
		found[[2]bool{wantSurely, wantPossibly}]++
	}
	if found[[2]bool{true, true}] < 50 || found[[2]bool{false, true}] < 50 || found[[2]bool{false, false}] < 100 {
		t.Error("few hold, or do not", found)
	}
}

// TestLoosenErrors is for P9.9's error.
func TestLoosenErrors(t *testing.T) {
	for _, b := range append(goodKinds(), example(lead(1500)), example(lead(1))) {
		for _, s := range badSpans(0, 100000000) {
			if got, e := bolt.Loosen(b, s); got != span(0, 0) || e != api.ErrRange {
				t.Error(b, s, got, e)
			}
		}
		for _, s := range []api.Span{just(0), just(100000000), span(0, 100000000)} {
			if _, e := bolt.Loosen(b, s); e != api.OK {
				t.Error(b, s, e)
			}
		}
	}
}
