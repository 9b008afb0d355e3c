package thread_test

import (
	"math/big"
	"testing"

	"acme/api"
	"acme/thread"
)

// widthOf computes the width from the places of both flanks.
func widthOf(f api.ThreadForm, y int) *big.Rat {
	leftFlank := new(big.Rat).Add(fraction(-f.Pitch, 4), fraction(y*f.Left, 1000))
	rightFlank := new(big.Rat).Sub(fraction(f.Pitch, 4), fraction(y*f.Right, 1000))
	return rightFlank.Sub(rightFlank, leftFlank)
}

// someHeights returns heights of a form: both ends, the pitch line, those beside them, and some between.
func someHeights(f api.ThreadForm) []int {
	l := []int{-f.Below}
	for _, y := range []int{1 - f.Below, -f.Below / 2, -f.Below / 3, -1, 0, 1, f.Above / 7, f.Above / 2, f.Above - 1, f.Above} {
		if y > l[len(l)-1] && y <= f.Above {
			l = append(l, y)
		}
	}
	return l
}

// TestWidth is for P1.2.
func TestWidth(t *testing.T) {
	for i, c := range []struct {
		f    api.ThreadForm
		y    int
		want api.Ratio
	}{
		{metric(), 0, ratio(5000, 1)}, {metric(), 3000, ratio(1538, 1)}, {metric(), -3000, ratio(8462, 1)},
		{metric(), 1, ratio(2499423, 500)}, {metric(), -1, ratio(2500577, 500)},
		{metric(leans(1, 0)), 1, ratio(4999999, 1000)}, {metric(leans(0, 1)), -1, ratio(5000001, 1000)},
		{metric(pitch(101), heights(1, 1)), 0, ratio(101, 2)},
		{metric(leans(500, 500), heights(5000, 5000)), 5000, ratio(0, 1)},
		{metric(leans(500, 500), heights(5000, 5000)), -5000, ratio(10000, 1)},
		{metric(leans(0, 0), heights(200000, 200000)), -200000, ratio(5000, 1)},
	} {
		if got, e := thread.Width(c.f, c.y); got != c.want || e != api.OK {
			t.Error(i, got, e)
		}
	}
	for i, f := range forms() {
		for _, y := range someHeights(f) {
			if got, e := thread.Width(f, y); !is(got, widthOf(f, y)) || e != api.OK {
				t.Error(i, y, got, e)
			}
		}
	}
}

// TestWidthRange is for P1.2: heights that a tooth does not reach.
func TestWidthRange(t *testing.T) {
	for _, f := range []api.ThreadForm{metric(), metric(heights(7, 3000)), metric(heights(3000, 0)), metric(heights(0, 9))} {
		for _, y := range append(extremes(), f.Above+1, -f.Below-1) {
			if y >= -f.Below && y <= f.Above {
				continue
			}
			if got, e := thread.Width(f, y); got != (api.Ratio{}) || e != api.ErrRange {
				t.Error(f, y, got, e)
			}
		}
	}
}

// TestSharp is for P1.3.
func TestSharp(t *testing.T) {
	for i, c := range []struct {
		f    api.ThreadForm
		want api.Ratio
	}{
		{metric(), ratio(2500000, 577)}, {metric(leans(500, 500)), ratio(5000, 1)}, {metric(leans(0, 1)), ratio(5000000, 1)},
		{metric(leans(1, 0)), ratio(5000000, 1)}, {metric(leans(30, 1000)), ratio(500000, 103)},
		{metric(leans(3000, 3000), heights(833, 833)), ratio(2500, 3)},
		{metric(pitch(100), leans(0, 3000), heights(1, 1)), ratio(50, 3)},
	} {
		if got, e := thread.Sharp(c.f); got != c.want || e != api.OK {
			t.Error(i, got, e)
		}
	}
	for _, f := range []api.ThreadForm{metric(leans(0, 0)), metric(leans(0, 0), heights(200000, 0), leftHand(), taper(5))} {
		if got, e := thread.Sharp(f); got != (api.Ratio{}) || e != api.ErrNone {
			t.Error(f, got, e)
		}
	}
}

// TestArea is for P1.4.
func TestArea(t *testing.T) {
	for i, c := range []struct {
		f        api.ThreadForm
		from, to int
		want     api.Ratio
	}{
		{metric(), -3000, 3000, ratio(30000000, 1)}, {metric(), 0, 3000, ratio(9807000, 1)}, {metric(), -3000, 0, ratio(20193000, 1)},
		{metric(), 5, 5, ratio(0, 1)}, {metric(), 3000, 3000, ratio(0, 1)}, {metric(), -3000, -3000, ratio(0, 1)},
		{metric(), 0, 1, ratio(4999423, 1000)}, {metric(), -1, 0, ratio(5000577, 1000)},
		{metric(pitch(101), leans(0, 0)), 0, 1, ratio(101, 2)}, {metric(leans(1, 0)), 0, 1, ratio(9999999, 2000)},
		{metric(leans(0, 0), heights(200000, 200000), pitch(200000)), -200000, 200000, ratio(40000000000, 1)},
	} {
		if got, e := thread.Area(c.f, c.from, c.to); got != c.want || e != api.OK {
			t.Error(i, got, e)
		}
	}
	for i, f := range forms() {
		l := someHeights(f)
		for k, from := range l {
			for _, to := range l[k:] {
				if got, e := thread.Area(f, from, to); !is(got, areaOf(f, from, to)) || e != api.OK {
					t.Error(i, from, to, got, e)
				}
			}
		}
	}
}

// areaOf computes the area from the widths at both ends: flanks are straight.
func areaOf(f api.ThreadForm, from, to int) *big.Rat {
	sum := new(big.Rat).Add(widthOf(f, from), widthOf(f, to))
	return sum.Mul(sum, fraction(to-from, 2))
}

// TestAreaRange is for P1.4: heights that a tooth does not reach, or in the wrong order.
func TestAreaRange(t *testing.T) {
	f := metric(heights(2000, 3000))
	for _, c := range [][2]int{{3, 2}, {0, -1}, {3000, -2000}, {0, 3001}, {-2001, 0}, {-2001, 3001}, {3001, 3001}, {-2001, -2001}, {3001, 3000}, {-2000, -2001}} {
		if got, e := thread.Area(f, c[0], c[1]); got != (api.Ratio{}) || e != api.ErrRange {
			t.Error(c, got, e)
		}
	}
	for _, n := range extremes() {
		if n >= -2000 && n <= 3000 {
			continue
		}
		for _, c := range [][2]int{{n, 0}, {0, n}, {n, n}, {-2000, n}, {n, 3000}} {
			if got, e := thread.Area(f, c[0], c[1]); got != (api.Ratio{}) || e != api.ErrRange {
				t.Error(c, got, e)
			}
		}
	}
}

// TestToothAndGroove is for P1.12: what Width and Area say agrees with each other.
func TestToothAndGroove(t *testing.T) {
	for i, f := range forms() {
		l := someHeights(f)
		fall := fraction(f.Left+f.Right, 1000)
		for k, y := range l {
			if got, e := thread.Width(f, y); e != api.OK || value(got).Sign() < 0 || value(got).Cmp(fraction(f.Pitch, 1)) > 0 {
				t.Error(i, "neither the tooth nor its groove has a width below 0", y, got, e)
			}
			if k == 0 {
				continue
			}
			lower, _ := thread.Width(f, l[k-1])
			upper, _ := thread.Width(f, y)
			fallen := new(big.Rat).Sub(value(lower), value(upper))
			if fallen.Cmp(new(big.Rat).Mul(fall, fraction(y-l[k-1], 1))) != 0 {
				t.Error(i, "falls by the same amount", y, fallen)
			}
			part, _ := thread.Area(f, l[0], l[k-1])
			rest, _ := thread.Area(f, l[k-1], y)
			whole, _ := thread.Area(f, l[0], y)
			if new(big.Rat).Add(value(part), value(rest)).Cmp(value(whole)) != 0 {
				t.Error(i, "parts add up", y, part, rest, whole)
			}
		}
		if got, e := thread.Width(f, 0); !is(got, fraction(f.Pitch, 2)) || e != api.OK {
			t.Error(i, "half the pitch at the pitch line", got, e)
		}
	}
}

// TestWhereFlanksMeet is for P1.13: heights up to Sharp are those of a form, others are not.
func TestWhereFlanksMeet(t *testing.T) {
	for i, f := range forms() {
		sharp, e := thread.Sharp(f)
		if e == api.ErrNone {
			continue
		}
		reach := sharp.Num / sharp.Den
		if f.Above > reach || f.Below > reach {
			t.Error(i, "farther than sharp", f, sharp)
		}
		for n := max(reach-2, 1); n <= reach+2; n++ {
			want := api.OK
			if n > reach || n > api.MaxThreadDepth {
				want = api.ErrArg
			}
			f.Below, f.Above = 0, n
			e := thread.Check(f)
			f.Below, f.Above = n, 0
			if g := thread.Check(f); e != want || g != want {
				t.Error(i, n, sharp, e, g)
			}
		}
	}
}
