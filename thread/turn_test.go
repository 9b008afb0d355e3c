package thread_test

import (
	"math/big"
	"testing"

	"acme/api"
	"acme/thread"
)

// angles are angles up to both limits.
func angles() []int {
	return []int{-api.MaxThreadAngle, -999999999, -1000001, -1000000, -250000, -7, -1, 0, 1, 3, 333333, 999999, 1000000, 1500000, 123456789, api.MaxThreadAngle}
}

// TestAdvance is for P1.5.
func TestAdvance(t *testing.T) {
	for i, c := range []struct {
		f     api.ThreadForm
		angle int
		want  api.Ratio
	}{
		{metric(), 250000, ratio(2500, 1)}, {metric(starts(2), leftHand()), 250000, ratio(-5000, 1)},
		{metric(starts(2), leftHand()), -1000000, ratio(20000, 1)}, {metric(), -250000, ratio(-2500, 1)},
		{metric(), 0, ratio(0, 1)}, {metric(leftHand()), 0, ratio(0, 1)}, {metric(), 1, ratio(1, 100)}, {metric(leftHand()), 1, ratio(-1, 100)},
		{metric(starts(3)), 333333, ratio(999999, 100)}, {metric(), 1000000000, ratio(10000000, 1)}, {metric(), -1000000000, ratio(-10000000, 1)},
		{metric(pitch(200000), starts(8)), 1000000000, ratio(1600000000, 1)},
		{metric(pitch(101), heights(1, 1)), 1, ratio(101, 1000000)},
	} {
		if got, e := thread.Advance(c.f, c.angle); got != c.want || e != api.OK {
			t.Error(i, got, e)
		}
	}
	for _, n := range append(extremes(), 1000000001, -1000000001) {
		if n >= -1000000000 && n <= 1000000000 {
			continue
		}
		for _, f := range []api.ThreadForm{metric(), metric(leftHand())} {
			if got, e := thread.Advance(f, n); got != (api.Ratio{}) || e != api.ErrRange {
				t.Error(n, got, e)
			}
		}
	}
}

// TestPerInch is for P1.6.
func TestPerInch(t *testing.T) {
	for i, c := range []struct {
		pitch int
		want  api.Ratio
	}{
		{10000, ratio(127, 5)}, {25400, ratio(10, 1)}, {254, ratio(1000, 1)}, {200000, ratio(127, 100)}, {100, ratio(2540, 1)}, {101, ratio(254000, 101)}, {127000, ratio(2, 1)},
	} {
		for _, f := range []api.ThreadForm{metric(pitch(c.pitch), heights(1, 1)), metric(pitch(c.pitch), heights(1, 1), starts(4), leftHand(), taper(9))} {
			if got, e := thread.PerInch(f); got != c.want || e != api.OK {
				t.Error(i, got, e)
			}
		}
	}
}

// TestDiameter is for P1.7.
func TestDiameter(t *testing.T) {
	for i, c := range []struct {
		f    api.ThreadForm
		d, x int
		want api.Ratio
	}{
		{metric(taper(50)), 100000, 10000, ratio(101000, 1)}, {metric(taper(50)), 100000, 0, ratio(100000, 1)}, {metric(), 7, 9999, ratio(7, 1)},
		{metric(taper(1)), 1, 1, ratio(501, 500)}, {metric(taper(3)), 10, 250, ratio(23, 2)}, {metric(taper(100)), 10000000, 10000000, ratio(12000000, 1)},
		{metric(taper(100), leftHand(), starts(3)), 1, 10000000, ratio(2000001, 1)}, {metric(taper(7)), 9, 125, ratio(43, 4)},
	} {
		if got, e := thread.Diameter(c.f, c.d, c.x); got != c.want || e != api.OK {
			t.Error(i, got, e)
		}
	}
	for _, f := range []api.ThreadForm{metric(), metric(taper(50))} {
		for _, n := range append(extremes(), 10000001) {
			if n < 1 || n > 10000000 {
				if got, e := thread.Diameter(f, n, 5); got != (api.Ratio{}) || e != api.ErrRange {
					t.Error("d", n, got, e)
				}
			}
			if n < 0 || n > 10000000 {
				if got, e := thread.Diameter(f, 5, n); got != (api.Ratio{}) || e != api.ErrRange {
					t.Error("x", n, got, e)
				}
			}
		}
	}
}

// TestMeets is for P1.8.
func TestMeets(t *testing.T) {
	for i, c := range []struct {
		f           api.ThreadForm
		screw, ring int
		want        api.Ratio
	}{
		{metric(taper(50)), 100000, 100500, ratio(1, 2)}, {metric(taper(50)), 100000, 100000, ratio(0, 1)}, {metric(taper(50), leftHand()), 100000, 100500, ratio(1, 2)},
		{metric(taper(1), starts(2)), 100000, 100003, ratio(3, 40)}, {metric(taper(100)), 1, 10000000, ratio(9999999, 2000)},
		{metric(taper(50)), 1, 1, ratio(0, 1)}, {metric(taper(50)), 10000000, 10000000, ratio(0, 1)},
		{metric(taper(1), pitch(100), heights(1, 1)), 1, 10000000, ratio(49999995, 1)},
		{metric(taper(7), pitch(10100), starts(8)), 9, 10, ratio(5, 5656)},
	} {
		if got, e := thread.Meets(c.f, c.screw, c.ring); got != c.want || e != api.OK {
			t.Error(i, got, e)
		}
	}
	for _, f := range []api.ThreadForm{metric(), metric(starts(8), leftHand())} {
		for _, c := range [][2]int{{5, 9}, {5, 5}, {1, 10000000}} {
			if got, e := thread.Meets(f, c[0], c[1]); got != (api.Ratio{}) || e != api.ErrNone {
				t.Error(c, got, e)
			}
		}
	}
}

// TestMeetsRange is for P1.8: the error of a range comes before that of a screw without taper.
func TestMeetsRange(t *testing.T) {
	ranges := [][2]int{{9, 5}, {2, 1}, {0, 5}, {0, 0}, {5, 10000001}, {10000001, 10000001}, {-1, 5}, {10000001, 5}, {5, 0}}
	for _, n := range extremes() {
		if n < 1 || n > 10000000 {
			ranges = append(ranges, [2]int{n, 5}, [2]int{5, n}, [2]int{n, n})
		}
	}
	for _, f := range []api.ThreadForm{metric(), metric(taper(50))} {
		for _, c := range ranges {
			if got, e := thread.Meets(f, c[0], c[1]); got != (api.Ratio{}) || e != api.ErrRange {
				t.Error(f.Taper, c, got, e)
			}
		}
	}
}

// moved returns how far a nut moves that is turned by an angle.
func moved(t *testing.T, f api.ThreadForm, angle int) *big.Rat {
	t.Helper()
	r, e := thread.Advance(f, angle)
	v := value(r)
	if e != api.OK || v == nil {
		t.Fatal(f, angle, r, e)
	}
	return v
}

// TestTurns is for P1.14: angles add up, hands are opposite, and a whole turn moves a nut by its lead.
func TestTurns(t *testing.T) {
	for i, f := range forms() {
		opposite := f
		opposite.LeftHand = !f.LeftHand
		for _, a := range angles() {
			if sum := new(big.Rat).Add(moved(t, f, a), moved(t, opposite, a)); sum.Sign() != 0 {
				t.Error(i, "a turn of one hand takes back that of the other one", a, sum)
			}
			for _, b := range angles() {
				if a+b < -api.MaxThreadAngle || a+b > api.MaxThreadAngle {
					continue
				}
				sum := new(big.Rat).Add(moved(t, f, a), moved(t, f, b))
				if sum.Cmp(moved(t, f, a+b)) != 0 {
					t.Error(i, "angles add up", a, b, sum)
				}
			}
		}
		lead := f.Pitch * f.Starts
		if f.LeftHand {
			lead = -lead
		}
		if turn := moved(t, f, api.Whole); turn.Cmp(fraction(lead, 1)) != 0 {
			t.Error(i, "a whole turn", turn)
		}
	}
}

// TestMeetsDiameter is for P1.14: after as many turns as Meets says, the screw has just the diameter of the ring at its face.
func TestMeetsDiameter(t *testing.T) {
	for i, f := range forms() {
		if f.Taper == 0 {
			continue
		}
		for _, screw := range []int{1, 777, 100000} {
			for _, gap := range []int{0, 2 * f.Taper, 34 * f.Taper, 1000 * f.Taper} {
				turns, e := thread.Meets(f, screw, screw+gap)
				if e != api.OK || value(turns) == nil {
					t.Fatal(i, screw, gap, turns, e)
				}
				at := new(big.Rat).Mul(value(turns), fraction(f.Pitch*f.Starts, 1))
				if !at.IsInt() {
					t.Fatal(i, screw, gap, at)
				}
				if got, e := thread.Diameter(f, screw, int(at.Num().Int64())); got != ratio(screw+gap, 1) || e != api.OK {
					t.Error(i, screw, gap, at, got, e)
				}
			}
		}
	}
}
