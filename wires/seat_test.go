package wires_test

import (
	"math/big"
	"testing"

	"acme/api"
	"acme/wires"
)

// form returns the form of chapter 1's examples with other heights, if they are not 0.
func form(below, above int) api.ThreadForm {
	f := api.ThreadForm{Pitch: 10000, Left: 577, Right: 577, Above: 3000, Below: 3000, Starts: 1}
	if below+above > 0 {
		f.Below, f.Above = below, above
	}
	return f
}

// straight returns a form whose flanks do not lean, so that its teeth can reach as far as they may.
func straight(pitch, below, above int) api.ThreadForm {
	return api.ThreadForm{Pitch: pitch, Below: below, Above: above, Starts: 1}
}

func usualAngle() api.WiresAngle { return api.WiresAngle{Factor: 3000, Half: 866} }

// TestSeat is for P5.8.
func TestSeat(t *testing.T) {
	for i, c := range []struct {
		f          api.ThreadForm
		a          api.WiresAngle
		wire       int
		touch, top api.Ratio
		seats      bool
	}{
		{form(0, 0), usualAngle(), 5800, ratio(20, 1), ratio(4370, 1), true},
		{form(0, 0), usualAngle(), 4000, ratio(-1330, 1), ratio(1670, 1), false},
		{form(0, 0), usualAngle(), 5801, ratio(83, 4), ratio(8743, 2), true},
		// The top is at the crest, 1 below it, and half a unit above and below it.
		{form(3000, 2999), usualAngle(), 4886, ratio(-1331, 2), ratio(2999, 1), true},
		{form(0, 0), usualAngle(), 4886, ratio(-1331, 2), ratio(2999, 1), false},
		{form(0, 0), usualAngle(), 4887, ratio(-2659, 4), ratio(6001, 2), true},
		{form(3000, 3001), usualAngle(), 4887, ratio(-2659, 4), ratio(6001, 2), false},
		// It touches just at the crest, and a quarter beyond it.
		{form(3000, 20), usualAngle(), 5800, ratio(20, 1), ratio(4370, 1), true},
		{form(3000, 19), usualAngle(), 5800, ratio(20, 1), ratio(4370, 1), false},
		{form(3000, 20), usualAngle(), 5801, ratio(83, 4), ratio(8743, 2), false},
		{form(3000, 21), usualAngle(), 5801, ratio(83, 4), ratio(8743, 2), true},
		// It touches just at the root, and beside it; the top is above a low crest.
		{form(1330, 0), usualAngle(), 4000, ratio(-1330, 1), ratio(1670, 1), true},
		{form(1329, 0), usualAngle(), 4000, ratio(-1330, 1), ratio(1670, 1), false},
		{form(665, 0), usualAngle(), 4886, ratio(-1331, 2), ratio(2999, 1), false},
		{form(666, 0), usualAngle(), 4886, ratio(-1331, 2), ratio(2999, 1), true},
		// The least and the greatest numbers.
		{straight(100, 200000, 0), api.WiresAngle{Factor: 1001}, 1, ratio(-999999, 2000), ratio(1001, 2000), true},
		{straight(100, 499, 0), api.WiresAngle{Factor: 1001}, 1, ratio(-999999, 2000), ratio(1001, 2000), false},
		{straight(100, 200000, 200000), api.WiresAngle{Factor: 20000}, 100000, ratio(18000000, 19), ratio(1000000, 1), false},
		{straight(200000, 200000, 200000), api.WiresAngle{Factor: 20000, Half: 20000}, 100000, ratio(-20000000, 19), ratio(-1000000, 1), false},
		{straight(200000, 200000, 200000), api.WiresAngle{Factor: 1001, Half: 20000}, 100000, ratio(-51999950, 1), ratio(-1949950, 1), false},
		{straight(200000, 200000, 0), api.WiresAngle{Factor: 3000, Half: 0}, 100000, ratio(75000, 1), ratio(150000, 1), false},
		{straight(200000, 200000, 75000), api.WiresAngle{Factor: 3000, Half: 0}, 100000, ratio(75000, 1), ratio(150000, 1), true},
	} {
		touch, top, seats, e := wires.Seat(c.f, c.a, c.wire)
		if touch != c.touch || top != c.top || seats != c.seats || e != api.OK {
			t.Error(i, touch, top, seats, e)
		}
	}
}

// TestSeatExactly is for P5.8: forms, angles and wires of all sorts, computed as the chapter says it.
func TestSeatExactly(t *testing.T) {
	r := dice()
	found := map[bool]int{}
	for range 20000 {
		f := form(r.IntN(4300), 1+r.IntN(4300))
		f.LeftHand, f.Starts, f.Taper = r.IntN(2) == 0, 1+r.IntN(8), r.IntN(101)
		a := api.WiresAngle{Factor: 2500 + r.IntN(1000), Half: 700 + r.IntN(300)}
		wire := 1 + r.IntN(10000)
		s, w := int64(a.Factor-1000), int64(wire)
		middle := new(big.Rat).Sub(big.NewRat(s*w, 2000), big.NewRat(int64(a.Half*f.Pitch), 2000))
		wantTouch, wantTop := new(big.Rat).Sub(middle, big.NewRat(500*w, s)), new(big.Rat).Add(middle, big.NewRat(w, 2))
		crest, root := big.NewRat(int64(f.Above), 1), big.NewRat(int64(-f.Below), 1)
		want := wantTouch.Cmp(root) >= 0 && wantTouch.Cmp(crest) <= 0 && wantTop.Cmp(crest) >= 0
		touch, top, seats, e := wires.Seat(f, a, wire)
		if !is(touch, wantTouch) || !is(top, wantTop) || seats != want || e != api.OK {
			t.Error(f, a, wire, touch, top, seats, e)
		}
		found[seats]++
	}
	if found[true] < 1000 || found[false] < 1000 {
		t.Error("few wires seat, or few do not", found)
	}
}

// TestSeatErrors is for P5.8: a form, an angle or a wire that is not valid, in this order.
func TestSeatErrors(t *testing.T) {
	badForms := []api.ThreadForm{{}, form(0, 5000), form(5000, 0), straight(99, 1, 1), straight(200001, 1, 1), straight(10000, 0, 0), straight(10000, -1, 2)}
	badAngles := []api.WiresAngle{{}}
	for _, n := range outside(1001, 20000) {
		badAngles = append(badAngles, api.WiresAngle{Factor: n, Half: 866})
	}
	for _, n := range outside(0, 20000) {
		badAngles = append(badAngles, api.WiresAngle{Factor: 3000, Half: n})
	}
	badWires := append(outside(1, 100000), 0)
	for _, wire := range append(badWires, 1, 5800, 100000) {
		for _, f := range badForms {
			for _, a := range append(badAngles, usualAngle()) {
				if got := seatAnswer(wires.Seat(f, a, wire)); got != failed(api.ErrArg) {
					t.Error(f, a, wire, got)
				}
			}
		}
		for _, a := range badAngles {
			if got := seatAnswer(wires.Seat(form(0, 0), a, wire)); got != failed(api.ErrArg) {
				t.Error(a, wire, got)
			}
		}
	}
	for _, wire := range badWires {
		if got := seatAnswer(wires.Seat(form(0, 0), usualAngle(), wire)); got != failed(api.ErrRange) {
			t.Error(wire, got)
		}
	}
	for _, wire := range []int{1, 100000} {
		if got := seatAnswer(wires.Seat(form(0, 0), usualAngle(), wire)); got != (answer{e: api.OK}) {
			t.Error(wire, got)
		}
	}
}
