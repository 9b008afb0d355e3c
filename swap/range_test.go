package swap_test

import (
	"testing"

	"acme/api"
	"acme/swap"
)

// checkRange reports what Range does not return as it should.
func checkRange(t *testing.T, a, b api.SwapStandard, depth api.Span, least, most int) {
	t.Helper()
	if gotLeast, gotMost, e := swap.Range(a, b, depth); gotLeast != least || gotMost != most || e != api.OK {
		t.Error(a, b, depth, gotLeast, gotMost, e, least, most)
	}
}

// TestRangeExample is for P8.3: the chapter's example 3, and others that are worked out by hand.
func TestRangeExample(t *testing.T) {
	l := examples()
	checkRange(t, l[0], l[1], usual(), 2, 6)
	checkRange(t, l[1], l[0], usual(), 1, 5)
	checkRange(t, l[0], l[0], usual(), 100, 100)
	checkRange(t, l[1], l[1], usual(), 100, 100)
	checkRange(t, of(metric(), span(-5, 1), just(0)), of(metric(), just(0), span(0, 9)), usual(), 0, 100)
	checkRange(t, of(metric(), span(-5, 1), just(0)), of(metric(), just(0), span(1, 9)), usual(), 100, 100)
	checkRange(t, of(metric(), span(1, 5), just(0)), of(metric(), just(-9), span(-9, 0)), usual(), 0, 0)
	// Just the screws of the first one and the nuts of the second one count.
	checkRange(t, of(metric(), just(0), sizes()), of(metric(), sizes(), just(0)), usual(), 100, 100)
	checkRange(t, of(metric(), sizes(), just(0)), of(metric(pitch(10020)), just(0), sizes()), usual(), 0, 100)
	checkRange(t, of(metric(leftHand()), sizes(), sizes()), of(metric(), sizes(), sizes()), usual(), 0, 0)
	checkRange(t, of(metric(leans(0, 0)), sizes(), sizes()), of(metric(leans(0, 0), pitch(10001)), sizes(), sizes()), whole(), 1, 1)
}

// TestRangeSearch is for P8.3: all screws and nuts of standards with few sizes.
func TestRangeSearch(t *testing.T) {
	r := dice()
	found := 0
	for range 1000 {
		l, depth := anyStandards(r, 2), nearDepth(r)
		a, b := l[0], l[len(l)-1]
		least, most := allTurns(a, b, depth)
		checkRange(t, a, b, depth, least, most)
		if least < most {
			found++
		}
	}
	if found < 50 {
		t.Error("few have turns that differ", found)
	}
}

// TestRangeErrors is for P8.3's errors and their order.
func TestRangeErrors(t *testing.T) {
	fail := func(a, b api.SwapStandard, depth api.Span, want api.Errno) {
		t.Helper()
		if least, most, e := swap.Range(a, b, depth); least != 0 || most != 0 || e != want {
			t.Error(a, b, depth, least, most, e, want)
		}
	}
	good := examples()[1]
	for _, bad := range badStandards() {
		fail(bad, good, usual(), api.ErrArg)
		fail(good, bad, usual(), api.ErrArg)
		fail(bad, bad, span(1, 0), api.ErrArg)
		fail(good, bad, span(-200001, 0), api.ErrArg)
	}
	for _, s := range badSpans(-200000, 200000) {
		fail(good, good, s, api.ErrRange)
		fail(good, of(metric(starts(2)), sizes(), sizes()), s, api.ErrRange)
	}
	for _, s := range goodStandards() {
		for _, depth := range []api.Span{usual(), whole(), just(-200000), just(200000)} {
			if _, _, e := swap.Range(s, good, depth); e != api.OK {
				t.Error(s, depth, e)
			}
		}
	}
}
