package fit_test

import (
	"reflect"
	"testing"

	"acme/api"
	"acme/fit"
)

// TestShow is for P3.5: the chapter's example and others that are worked out by hand.
func TestShow(t *testing.T) {
	for i, c := range []struct {
		f          api.ThreadForm
		ring, plug int
		screw, nut api.FitThread
		goes       bool
	}{
		{metric(), 10, 0, lean(-2505, 2505, 7495, 12505), lean(-2500, 2500, 7500, 12500), false},
		{metric(), 0, 0, lean(-2500, 2500, 7500, 12500), lean(-2500, 2500, 7500, 12500), true},
		// Less than a unit is lost on each side of the screw, and won on each side of the nut.
		{metric(), 1, 0, lean(-2500, 2500), lean(-2500, 2500), true}, {metric(), 1, 1, lean(-2500, 2500), lean(-2501, 2501), true}, {metric(), 2, 1, lean(-2501, 2501), lean(-2501, 2501), true}, {metric(), 3, 1, lean(-2501, 2501), lean(-2501, 2501), true}, {metric(), 4, 1, lean(-2502, 2502), lean(-2501, 2501), false},
		// Sizes below 0 are rounded in the same way.
		{metric(), -1, -1, lean(-2499, 2499), lean(-2500, 2500), true}, {metric(), -10, -10, lean(-2494, 2494), lean(-2495, 2495), true}, {metric(), -4331, -4331, lean(-1, 1), lean(-2, 2), true}, {metric(), -4332, -4333, lean(0, 0), lean(0, 0), true},
		// A quarter of the pitch that is no integer, and a form that leans to one side, or to none.
		{leaning(101, 0, 500), 0, 0, turned(0, 500, -25, 25, 76, 126), turned(0, 500, -26, 26, 75, 127), true}, {leaning(101, 0, 500), 1, -1, turned(0, 500, -25, 25, 76, 126), turned(0, 500, -26, 25, 75, 126), true}, {leaning(102, 0, 500), 1, 0, turned(0, 500, -25, 26), turned(0, 500, -26, 26), true}, {leaning(103, 1000, 0), 3, 0, turned(1000, 0, -28, 25), turned(1000, 0, -26, 26), false}, {leaning(103, 1000, 0), 2, 0, turned(1000, 0, -27, 25), turned(1000, 0, -26, 26), true}, {straight(), 10000, -10000, turned(0, 0, -2500, 2500), turned(0, 0, -2500, 2500), true},
		// As far as limits go: a tooth and a groove of a whole pitch, and flanks that are the farthest there may be.
		{metric(), 4332, 4332, lean(-4999, 4999, 5001, 14999), lean(-5000, 5000, 5000, 15000), true},
		{leaning(40000, 1000, 1000), 10000, -10000, turned(1000, 1000, -20000, 20000), turned(1000, 1000, 0, 0), false},
	} {
		screw, nut, goes, e := fit.Show(c.f, c.ring, c.plug, len(c.screw.Turns), usual())
		if !reflect.DeepEqual(screw, c.screw) || !reflect.DeepEqual(nut, c.nut) || goes != c.goes || e != api.OK {
			t.Error(i, screw, nut, goes, e)
		}
	}
}

// isInside reports whether a thread is the greatest one at integers that lies within flanks at the pitch line, and isOutside whether it is the least one around them.
func isInside(t api.FitThread, flanks flanksAt) bool {
	inside := true
	for k, turn := range t.Turns {
		left, right := flanks(k, 0)
		inside = inside && 1000*turn.Left >= left && 1000*(turn.Left-1) < left && 1000*turn.Right <= right && 1000*(turn.Right+1) > right
	}
	return inside
}

func isOutside(t api.FitThread, flanks flanksAt) bool {
	outside := true
	for k, turn := range t.Turns {
		left, right := flanks(k, 0)
		outside = outside && 1000*turn.Left <= left && 1000*(turn.Left+1) > left && 1000*turn.Right >= right && 1000*(turn.Right-1) < right
	}
	return outside
}

// TestShowSearch is for P3.5: flanks that are looked at one by one, and whether the screw goes into the nut, height by height.
func TestShowSearch(t *testing.T) {
	found := map[bool]int{}
	for _, f := range forms() {
		for _, ring := range []int{-40, -7, -1, 0, 1, 2, 9, 33} {
			for _, plug := range []int{-33, -2, -1, 0, 1, 3, 10, 40} {
				for _, turns := range []int{1, 2, 7} {
					for _, depth := range depths()[:6] {
						screw, nut, goes, e := fit.Show(f, ring, plug, turns, depth)
						if e == api.ErrState && f.Pitch < 200 {
							continue
						}
						if e != api.OK || len(screw.Turns) != turns || len(nut.Turns) != turns || screw.Left != f.Left || screw.Right != f.Right || nut.Left != f.Left || nut.Right != f.Right {
							t.Fatal(f, ring, plug, turns, depth, screw, nut, e)
						}
						if !isInside(screw, perfect(f, ring)) || !isOutside(nut, perfect(f, plug)) || goes != goesInto(asIs(screw), asIs(nut), turns, depth) {
							t.Error(f, ring, plug, turns, depth, screw, nut, goes)
						}
						found[goes]++
					}
				}
			}
		}
	}
	if found[true] < 100 || found[false] < 100 {
		t.Error("the search has not both answers", found)
	}
}

// TestShowErrors is for P3.5: numbers out of their limits come before the depth, and the depth before threads that are not as they should be.
func TestShowErrors(t *testing.T) {
	for i, c := range []struct {
		f                 api.ThreadForm
		ring, plug, turns int
		depth             api.Span
		e                 api.Errno
	}{
		{metric(), 0, 0, 0, usual(), api.ErrRange}, {metric(), 0, 0, -1, usual(), api.ErrRange}, {metric(), 0, 0, 61, usual(), api.ErrRange}, {metric(), 0, 0, 60, usual(), api.OK}, {metric(), 0, 0, 1, usual(), api.OK},
		{straight(), 10001, 0, 1, usual(), api.ErrRange}, {straight(), -10001, 0, 1, usual(), api.ErrRange}, {straight(), 0, 10001, 1, usual(), api.ErrRange}, {straight(), 0, -10001, 1, usual(), api.ErrRange}, {straight(), 10000, -10000, 1, usual(), api.OK}, {straight(), -10000, 10000, 60, usual(), api.OK},
		{metric(), -10001, -10000, 1, usual(), api.ErrRange}, {metric(), -10000, 10001, 1, usual(), api.ErrRange}, {metric(), -10000, 0, 0, usual(), api.ErrRange}, {metric(), -10000, 0, 1, span(1, 0), api.ErrRange}, {metric(), 0, -10000, 1, span(0, 200001), api.ErrRange},
		// A tooth, or a groove, whose flanks are exchanged.
		{metric(), -4332, 0, 1, usual(), api.OK}, {metric(), -4333, 0, 1, usual(), api.ErrState}, {metric(), 0, -4333, 1, usual(), api.OK}, {metric(), 0, -4334, 1, usual(), api.OK}, {metric(), 0, -4335, 1, usual(), api.ErrState}, {metric(), -10000, -10000, 60, usual(), api.ErrState},
		// Teeth, or grooves, that run into one another: of one turn there are none.
		{metric(), 4333, 0, 2, usual(), api.OK}, {metric(), 4334, 0, 2, usual(), api.OK}, {metric(), 4335, 0, 2, usual(), api.ErrState}, {metric(), 4335, 0, 1, usual(), api.OK}, {metric(), 0, 4332, 2, usual(), api.OK}, {metric(), 0, 4333, 2, usual(), api.ErrState}, {metric(), 0, 4333, 1, usual(), api.OK}, {metric(), 10000, 10000, 1, usual(), api.OK}, {metric(), 10000, 10000, 2, usual(), api.ErrState},
		// Flanks that are farther than there may be: 50 pitches and a quarter.
		{leaning(200000, 0, 0), 0, 0, 50, usual(), api.OK}, {leaning(200000, 0, 0), 0, 0, 51, usual(), api.ErrState}, {leaning(200000, 0, 0), 0, 0, 60, usual(), api.ErrState}, {leaning(168776, 0, 0), 0, 0, 60, usual(), api.OK}, {leaning(168777, 0, 0), 0, 0, 60, usual(), api.ErrState},
	} {
		screw, nut, goes, e := fit.Show(c.f, c.ring, c.plug, c.turns, c.depth)
		if got := showAnswer(screw, nut, goes, e); got != (answer{zero: c.e != api.OK, e: c.e}) {
			t.Error(i, screw, nut, goes, e)
		}
	}
	for i, n := range extremes() {
		for _, m := range extremes() {
			for _, c := range [][3]int{{n, 0, 1}, {0, n, 1}, {0, 0, n}, {n, m, 1}, {n, 1, m}, {1, n, m}, {n, m, n}} {
				good := c[0] >= -1 && c[0] <= 1 && c[1] >= -1 && c[1] <= 1 && c[2] == 1
				if got := showAnswer(fit.Show(metric(), c[0], c[1], c[2], usual())); got.e != api.OK && got != (answer{zero: true, e: api.ErrRange}) || (got.e == api.OK) != good {
					t.Error(i, c, got)
				}
			}
		}
	}
}
