package swap_test

import (
	"testing"

	"acme/api"
	"acme/swap"
	"acme/thread"
)

// checkTurns reports what Turns does not return as it should.
func checkTurns(t *testing.T, screw, nut api.ThreadForm, c, d int, depth api.Span, want int) {
	t.Helper()
	if got, e := swap.Turns(screw, nut, c, d, depth); got != want || e != api.OK {
		t.Error(screw, nut, c, d, depth, got, e, want)
	}
}

// TestTurnsExample is for P8.2: the chapter's examples 1 to 3.
func TestTurnsExample(t *testing.T) {
	other := metric(pitch(10020))
	checkTurns(t, metric(), metric(), 0, 0, usual(), 100)
	checkTurns(t, metric(), metric(), 0, -1, usual(), 0)
	checkTurns(t, metric(), other, -60, 0, usual(), 4)
	checkTurns(t, metric(), other, -20, 0, usual(), 2)
	checkTurns(t, metric(), other, -60, 30, usual(), 6)
	checkTurns(t, other, metric(), -20, 0, usual(), 1)
	checkTurns(t, other, metric(), -60, 30, usual(), 5)
}

// TestTurnsPitch is for P8.2: the play, 1 for each unit of size, and what is taken from it by pitches that differ.
func TestTurnsPitch(t *testing.T) {
	whole := leans(500, 500)
	for i, c := range []struct{ screw, nut, size, want int }{
		// A nut with the greater pitch has the wider grooves: 10 units more play, and each further turn takes 20.
		{10000, 10020, 11, 0}, {10000, 10020, 10, 1}, {10000, 10020, -9, 1}, {10000, 10020, -10, 2}, {10000, 10020, -29, 2}, {10000, 10020, -30, 3}, {10000, 10020, -1969, 99}, {10000, 10020, -1970, 100}, {10000, 10020, -10000, 100},
		// A nut with the smaller one has 10 less.
		{10020, 10000, -9, 0}, {10020, 10000, -10, 1}, {10020, 10000, -29, 1}, {10020, 10000, -30, 2}, {10020, 10000, -1989, 99}, {10020, 10000, -1990, 100},
		// Half a unit of play is not enough for a whole one.
		{10000, 10001, 1, 0}, {10000, 10001, 0, 1}, {10000, 10001, -1, 2}, {10000, 10001, -98, 99}, {10000, 10001, -99, 100}, {10001, 10000, 0, 0}, {10001, 10000, -1, 1}, {10001, 10000, -2, 2}, {10001, 10000, -99, 99}, {10001, 10000, -100, 100},
		{10000, 10000, 1, 0}, {10000, 10000, 0, 100}, {10000, 10000, -1, 100}, {10000, 12000, 0, 1}, {10000, 12000, 1000, 1}, {10000, 12000, 1001, 0}, {10000, 12000, -1000, 2}, {12000, 10000, -1000, 1}, {12000, 10000, -999, 0},
	} {
		screw, nut := metric(whole, pitch(c.screw)), metric(whole, pitch(c.nut))
		if got, e := swap.Turns(screw, nut, c.size, 0, usual()); got != c.want || e != api.OK {
			t.Error(i, got, e, c)
		}
		// A screw that is smaller is as good as a nut that is greater.
		if got, e := swap.Turns(screw, nut, 0, -c.size, usual()); got != c.want || e != api.OK {
			t.Error("nut", i, got, e, c)
		}
	}
}

// TestTurnsLeans is for P8.2: flanks that lean otherwise touch at one end of the depth, and each size counts by the leans of its own form.
func TestTurnsLeans(t *testing.T) {
	flat, steep := metric(leans(577, 577)), metric(leans(600, 600))
	for i, c := range []struct {
		screw, nut api.ThreadForm
		c, d       int
		depth      api.Span
		want       int
	}{
		// At the height 3000 the nut's groove is narrower by 69 on each side (chapter 1's example 5).
		{flat, steep, -119, 0, usual(), 0}, {flat, steep, -120, 0, usual(), 100}, {flat, steep, 0, 114, usual(), 0}, {flat, steep, 0, 115, usual(), 100}, {flat, steep, 0, 0, span(-3000, 0), 100}, {flat, steep, 1, 0, span(-3000, 0), 0}, {flat, steep, 0, 0, span(-3000, 1), 0},
		// At -3000 the screw's tooth is narrower by as much.
		{flat, steep, 119, 0, just(-3000), 100}, {flat, steep, 120, 0, just(-3000), 0}, {flat, steep, 0, -115, just(-3000), 100}, {flat, steep, 0, -116, just(-3000), 0},
		{steep, flat, 115, 0, just(3000), 100}, {steep, flat, 116, 0, just(3000), 0}, {steep, flat, 0, -119, just(3000), 100}, {steep, flat, 0, -120, just(3000), 0}, {steep, flat, -115, 0, usual(), 100}, {steep, flat, -114, 0, usual(), 0},
		// Both flanks share the play, as the screw can be shifted, even if each of them touches at another end of the depth.
		{metric(leans(0, 1154)), metric(leans(577, 577)), 0, 0, just(0), 100}, {metric(leans(0, 1154)), metric(leans(577, 577)), 0, 0, just(3000), 100}, {metric(leans(0, 1154)), metric(leans(577, 577)), 0, 0, just(-3000), 100}, {metric(leans(0, 1154)), metric(leans(577, 577)), 1, 0, just(3000), 0},
		{metric(leans(0, 1154)), metric(leans(577, 577)), -2999, 0, usual(), 0}, {metric(leans(0, 1154)), metric(leans(577, 577)), -3000, 0, usual(), 100},
		// Without leans no size makes a difference.
		{metric(leans(0, 0)), metric(leans(0, 0)), 10000, -10000, whole(), 100}, {metric(leans(0, 0), pitch(10001)), metric(leans(0, 0)), -10000, 10000, just(0), 0}, {metric(leans(0, 0)), metric(leans(1, 0)), -10000, 199, whole(), 0}, {metric(leans(0, 0)), metric(leans(1, 0)), -10000, 10000, span(0, 10001), 0}, {metric(leans(0, 0)), metric(leans(1, 0)), 10000, 10000, span(0, 10000), 100},
		// As great as numbers can be.
		{metric(leans(3000, 3000), heights(1, 1)), metric(leans(0, 0)), -10000, 0, whole(), 0}, {metric(leans(0, 0)), metric(leans(3000, 3000), heights(1, 1)), 0, 10000, whole(), 0}, {metric(leans(0, 0)), metric(leans(3000, 3000), heights(1, 1)), 0, -10000, just(-200000), 100},
		{metric(pitch(100), leans(0, 0)), metric(pitch(200000), leans(3000, 3000), heights(1, 1)), 0, 10000, just(-200000), 7}, {metric(pitch(200000), leans(3000, 3000), heights(1, 1)), metric(pitch(100), leans(0, 0)), -10000, 0, just(200000), 6},
	} {
		if got, e := swap.Turns(c.screw, c.nut, c.c, c.d, c.depth); got != c.want || e != api.OK {
			t.Error(i, got, e, c)
		}
	}
}

// TestTurnsAgree is for P8.2: forms that do not agree; Above and Below do not count.
func TestTurnsAgree(t *testing.T) {
	for _, c := range []change{starts(2), starts(8), leftHand(), taper(1), taper(100)} {
		for _, sizes := range [][2]int{{0, 0}, {-10000, 10000}} {
			checkTurns(t, metric(c), metric(), sizes[0], sizes[1], usual(), 0)
			checkTurns(t, metric(), metric(c), sizes[0], sizes[1], usual(), 0)
			checkTurns(t, metric(c), metric(c), sizes[0], sizes[1], usual(), 100)
		}
	}
	checkTurns(t, metric(taper(1)), metric(taper(2)), -10000, 10000, usual(), 0)
	checkTurns(t, metric(heights(1, 0)), metric(heights(0, 4000)), 0, 0, whole(), 100)
	checkTurns(t, metric(heights(4332, 0)), metric(heights(0, 1)), 1, 0, whole(), 0)
}

// TestTurnsRoom is for P8.2: with the same pitch a screw goes in if it is smaller by chapter 1's Room, and not if it is smaller by 1 less.
func TestTurnsRoom(t *testing.T) {
	found := 0
	for _, a := range forms() {
		for _, b := range forms() {
			for _, depth := range []api.Span{usual(), span(-200, 100), just(-50), just(70), span(10, 60)} {
				room, e := thread.Room(a, b, depth)
				if e != api.OK || room > api.MaxSwapSize {
					continue
				}
				checkTurns(t, a, b, -room, 0, depth, 100)
				if room > 0 {
					found++
					checkTurns(t, a, b, 1-room, 0, depth, 0)
				}
			}
		}
	}
	if found < 20 {
		t.Error("few forms need room", found)
	}
}

// TestTurnsSearch is for P8.2: all turns, height by height.
func TestTurnsSearch(t *testing.T) {
	r := dice()
	found := map[bool]int{}
	for range 5000 {
		screw, nut, depth := anyForm(r), anyForm(r), nearDepth(r)
		c, d := -r.IntN(200)+20, r.IntN(60)-30
		want := searched(screw, nut, c, d, depth)
		checkTurns(t, screw, nut, c, d, depth, want)
		if want > 1 {
			found[want < 100]++
		}
	}
	if found[true] < 500 || found[false] < 500 {
		t.Error("few go for some turns", found)
	}
}

// TestTurnsErrors is for P8.2's errors and their order, with each limit reached and passed by one.
func TestTurnsErrors(t *testing.T) {
	fail := func(screw, nut api.ThreadForm, c, d int, depth api.Span, want api.Errno) {
		t.Helper()
		if got, e := swap.Turns(screw, nut, c, d, depth); got != 0 || e != want {
			t.Error(screw, nut, c, d, depth, got, e, want)
		}
	}
	for _, bad := range badForms() {
		for _, good := range append(forms(), bad) {
			fail(bad, good, 0, 0, usual(), api.ErrArg)
			fail(good, bad, 0, 0, usual(), api.ErrArg)
			fail(bad, good, 10001, 0, usual(), api.ErrArg)
			fail(good, bad, 0, -10001, span(1, 0), api.ErrArg)
		}
	}
	for _, n := range outside(-10000, 10000) {
		fail(metric(), metric(), n, 0, usual(), api.ErrRange)
		fail(metric(), metric(), 0, n, usual(), api.ErrRange)
		fail(metric(leftHand()), metric(), n, n, usual(), api.ErrRange)
		fail(metric(), metric(pitch(200)), n, 0, usual(), api.ErrArg)
	}
	for _, s := range badSpans(-200000, 200000) {
		fail(metric(), metric(), 0, 0, s, api.ErrRange)
		fail(metric(), metric(starts(2)), -10000, 10000, s, api.ErrRange)
	}
	for _, n := range []int{-10000, 10000} {
		checkTurns(t, metric(), metric(), n, n, usual(), 100)
		checkTurns(t, metric(), metric(), n, n, whole(), 100)
		checkTurns(t, metric(), metric(), n, n, just(20*n), 100)
	}
}
