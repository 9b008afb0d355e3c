package thread_test

import (
	"testing"

	"acme/api"
	"acme/thread"
)

// TestRoom is for P1.9.
func TestRoom(t *testing.T) {
	for i, c := range []struct {
		a, b  api.ThreadForm
		depth api.Span
		want  int
	}{
		{metric(), metric(leans(600, 600)), span(-3000, 3000), 120}, {metric(), metric(leans(600, 600)), span(-3000, 0), 0}, {metric(), metric(leans(600, 600)), span(0, 3000), 120},
		{metric(), metric(leans(600, 600)), span(3000, 3000), 120}, {metric(), metric(leans(600, 600)), span(2885, 2885), 115}, {metric(), metric(leans(600, 600)), span(2886, 2886), 116}, {metric(), metric(leans(600, 600)), span(1, 1), 1},
		{metric(), metric(leans(550, 550)), span(-3000, 3000), 141}, {metric(), metric(leans(550, 550)), span(0, 3000), 0},
		// One flank takes from the other one what it needs.
		{metric(), metric(leans(600, 577)), span(-3000, 3000), 60}, {metric(), metric(leans(577, 600)), span(-3000, 3000), 60}, {metric(), metric(leans(600, 554)), span(-3000, 3000), 120},
		{metric(), metric(leans(600, 550)), span(1000, 3000), 37}, {metric(), metric(leans(600, 500)), span(1000, 3000), 0}, {metric(), metric(leans(500, 600)), span(1000, 3000), 0},
		// Just enough, and by one thousandth too little.
		{metric(leans(500, 500)), metric(leans(501, 501)), span(0, 1000), 2}, {metric(leans(500, 500)), metric(leans(501, 500)), span(0, 1000), 1}, {metric(leans(500, 500)), metric(leans(501, 500)), span(0, 1001), 2},
		{metric(leans(0, 1000)), metric(leans(5, 1000)), span(-10, 10), 1}, {metric(leans(1000, 0), above(1)), metric(leans(3000, 0), heights(1, 1)), span(0, 200000), 400000},
		// Only the depth counts, not how far the teeth reach.
		{metric(heights(1, 1)), metric(leans(600, 600), heights(1, 1)), span(-3000, 3000), 120}, {metric(), metric(), span(-200000, 200000), 0}, {metric(), metric(leans(600, 600)), span(200000, 200000), 7973},
		{metric(leans(0, 0)), metric(leans(1, 0)), span(-1, 0), 0}, {metric(leans(0, 0)), metric(leans(1, 2)), span(-9, -1), 0}, {metric(leans(0, 0)), metric(leans(0, 0)), span(-9, 9), 0},
		{metric(starts(2), leftHand(), taper(7)), metric(leans(600, 600), starts(2), leftHand(), taper(7)), span(-3000, 3000), 120},
	} {
		if got, e := thread.Room(c.a, c.b, c.depth); got != c.want || e != api.OK {
			t.Error(i, got, e)
		}
	}
}

// TestRoomErrors is for P1.9: all errors, in their order.
func TestRoomErrors(t *testing.T) {
	for i, c := range []struct {
		a, b  api.ThreadForm
		depth api.Span
		e     api.Errno
	}{
		{metric(), metric(pitch(10001)), span(0, 1), api.ErrState}, {metric(), metric(starts(2)), span(0, 1), api.ErrState}, {metric(), metric(leftHand()), span(0, 1), api.ErrState}, {metric(leftHand()), metric(), span(0, 1), api.ErrState}, {metric(), metric(taper(1)), span(0, 1), api.ErrState},
		{metric(), metric(starts(2)), span(1, 0), api.ErrState}, {metric(leans(0, 0)), metric(taper(1)), span(0, 1), api.ErrState}, {metric(leans(0, 0)), metric(pitch(9999)), span(1, 0), api.ErrState},
		{metric(), metric(), span(1, 0), api.ErrRange}, {metric(), metric(), span(-200001, 0), api.ErrRange}, {metric(), metric(), span(0, 200001), api.ErrRange}, {metric(), metric(), span(200001, 200001), api.ErrRange}, {metric(), metric(), span(-200001, -200001), api.ErrRange},
		{metric(leans(0, 0)), metric(), span(1, 0), api.ErrRange}, {metric(leans(0, 0)), metric(), span(0, 200001), api.ErrRange},
		{metric(leans(0, 0)), metric(leans(1, 0)), span(0, 1), api.ErrNone}, {metric(leans(0, 0)), metric(leans(0, 1)), span(0, 1), api.ErrNone}, {metric(leans(0, 0)), metric(leans(0, 1)), span(-5, 1), api.ErrNone}, {metric(leans(0, 0)), metric(), span(-200000, 200000), api.ErrNone},
	} {
		if got, e := thread.Room(c.a, c.b, c.depth); got != 0 || e != c.e {
			t.Error(i, got, e)
		}
	}
	for _, n := range extremes() {
		if n >= -200000 && n <= 200000 {
			continue
		}
		for _, depth := range []api.Span{span(n, 0), span(0, n), span(n, n)} {
			if got, e := thread.Room(metric(), metric(leans(600, 600)), depth); got != 0 || e != api.ErrRange {
				t.Error(depth, got, e)
			}
		}
	}
}

// liesIn reports whether a screw whose radius is smaller by c goes into a nut over a depth, by looking at each height: all in 4000ths of a unit.
func liesIn(a, b api.ThreadForm, depth api.Span, c int) bool {
	least, most := -1<<60, 1<<60
	for y := depth.Low; y <= depth.High; y++ {
		screwLeft, nutLeft := -1000*a.Pitch+4*(y+c)*a.Left, -1000*b.Pitch+4*y*b.Left
		screwRight, nutRight := 1000*a.Pitch-4*(y+c)*a.Right, 1000*b.Pitch-4*y*b.Right
		least = max(least, nutLeft-screwLeft)
		most = min(most, nutRight-screwRight)
	}
	return least <= most
}

// TestRoomIsLeast is for P1.15 (and P1.9): with Room the tooth lies in the groove, with 1 less it does not.
func TestRoomIsLeast(t *testing.T) {
	slopes := []int{0, 1, 2, 577, 600, 3000}
	depths := []api.Span{span(-12, 12), span(-12, -3), span(4, 11), span(0, 0), span(0, 9), span(-9, 0), span(7, 7), span(-7, -7), span(150, 161)}
	for _, al := range slopes {
		for _, ar := range slopes {
			a := metric(leans(al, ar), heights(1, 1))
			for _, bl := range slopes {
				for _, br := range slopes {
					b := metric(leans(bl, br), heights(1, 0))
					for _, depth := range depths {
						checkRoom(t, a, b, depth)
					}
				}
			}
		}
	}
}

func checkRoom(t *testing.T, a, b api.ThreadForm, depth api.Span) {
	t.Helper()
	c, e := thread.Room(a, b, depth)
	if e == api.ErrNone {
		if a.Left+a.Right != 0 || c != 0 || liesIn(a, b, depth, 1<<30) {
			t.Error(a, b, depth, c, e)
		}
		return
	}
	if e != api.OK || c < 0 || !liesIn(a, b, depth, c) || c > 0 && liesIn(a, b, depth, c-1) {
		t.Error(a, b, depth, c, e)
	}
}

// TestRoomInItself is for P1.15: a form has room in itself, and over less depth no more is needed.
func TestRoomInItself(t *testing.T) {
	for i, f := range forms() {
		for _, depth := range []api.Span{span(-f.Below, f.Above), span(-200000, 200000), span(5, 5)} {
			if c, e := thread.Room(f, f, depth); c != 0 || e != api.OK {
				t.Error(i, depth, c, e)
			}
		}
	}
	a, b := metric(), metric(leans(590, 560))
	for low := -3000; low <= 3000; low += 500 {
		for high := low; high <= 3000; high += 500 {
			whole, _ := thread.Room(a, b, span(low, high))
			for _, part := range []api.Span{span(low, low), span(high, high), span((low+high)/2, high), span(low, (low+high)/2)} {
				if c, e := thread.Room(a, b, part); c > whole || e != api.OK {
					t.Error(low, high, part, c, whole, e)
				}
			}
		}
	}
}
