package zone_test

import (
	"testing"

	"acme/api"
	"acme/zone"
)

// TestBefore is for P2.3.
func TestBefore(t *testing.T) {
	for i, c := range []struct {
		s    api.Span
		nut  bool
		coat api.ZoneCoat
		want api.Span
	}{
		{span(59840, 59960), false, coat(5, 8, 4, 1), span(59820, 59928)}, {span(59840, 59960), false, coat(5, 8, 7, 2), span(59823, 59932)},
		{span(59840, 59960), true, coat(5, 8, 4, 1), span(59872, 59980)}, {span(59840, 59960), true, coat(5, 8, 7, 2), span(59868, 59977)},
		{span(-10, 10), false, coat(1, 1, 1, 2), span(-10, 9)}, {span(-10, 10), true, coat(1, 1, 1, 2), span(-9, 10)},
		{span(7, 7), false, coat(0, 0, 1000, 1), span(7, 7)}, {span(7, 7), true, coat(0, 0, 1, 1000), span(7, 7)}, {span(7, 7), false, coat(4, 4, 3, 2), span(1, 1)}, {span(7, 7), true, coat(4, 4, 3, 2), span(13, 13)},
		// A ratio that is not in lowest terms.
		{span(0, 100), false, coat(3, 3, 4, 6), span(-2, 98)}, {span(0, 100), true, coat(3, 3, 1000, 1000), span(3, 103)},
		// Just one diameter.
		{span(0, 12), false, coat(5, 8, 4, 1), span(-20, -20)}, {span(0, 12), true, coat(5, 8, 4, 1), span(32, 32)}, {span(0, 1), false, coat(1, 1, 1, 2), span(0, 0)},
		// Limits that are reached.
		{span(-20000000, 20000000), false, coat(0, 10000, 1000, 1), span(-20000000, 10000000)}, {span(-20000000, 20000000), true, coat(0, 10000, 1000, 1), span(-10000000, 20000000)}, {span(-20000000, -20000000), false, coat(10000, 10000, 1000, 1), span(-30000000, -30000000)}, {span(20000000, 20000000), true, coat(10000, 10000, 1000, 1), span(30000000, 30000000)},
	} {
		if got, e := zone.Before(c.s, c.nut, c.coat); got != c.want || e != api.OK {
			t.Error(i, got, e)
		}
	}
}

// TestBeforeNone is for P2.3: no diameter is right whatever the thickness is.
func TestBeforeNone(t *testing.T) {
	for _, nut := range []bool{false, true} {
		for i, c := range []struct {
			s    api.Span
			coat api.ZoneCoat
		}{
			{span(0, 11), coat(5, 8, 4, 1)}, {span(5, 5), coat(0, 1, 1, 1)}, {span(5, 5), coat(1, 1, 1, 2)}, {span(-3, -3), coat(1, 1, 1, 1000)}, {span(5, 6), coat(0, 10000, 1, 1000)}, {span(0, 9999999), coat(0, 10000, 1000, 1)},
		} {
			if got, e := zone.Before(c.s, nut, c.coat); got != (api.Span{}) || e != api.ErrState {
				t.Error(i, nut, got, e)
			}
		}
	}
}

// TestAfter is for P2.4.
func TestAfter(t *testing.T) {
	for i, c := range []struct {
		s    api.Span
		nut  bool
		coat api.ZoneCoat
		want api.Span
	}{
		{span(59820, 59928), false, coat(5, 8, 4, 1), span(59840, 59960)}, {span(59823, 59932), false, coat(5, 8, 7, 2), span(59840, 59960)},
		{span(59872, 59980), true, coat(5, 8, 4, 1), span(59840, 59960)}, {span(59868, 59977), true, coat(5, 8, 7, 2), span(59840, 59960)},
		{span(-10, 10), false, coat(1, 1, 1, 2), span(-10, 11)}, {span(-10, 10), true, coat(1, 1, 1, 2), span(-11, 10)}, {span(0, 0), false, coat(1, 2, 1, 1000), span(0, 1)}, {span(0, 0), true, coat(1, 2, 1, 1000), span(-1, 0)},
		{span(7, 7), false, coat(0, 0, 1000, 1), span(7, 7)}, {span(7, 7), true, coat(0, 0, 1, 1000), span(7, 7)}, {span(7, 7), false, coat(4, 4, 3, 2), span(13, 13)}, {span(7, 7), true, coat(4, 4, 3, 2), span(1, 1)}, {span(0, 100), false, coat(3, 3, 4, 6), span(2, 102)},
		// No diameter before plating is right for such a zone, but each one has one after it.
		{span(5, 5), false, coat(0, 10000, 1, 1), span(5, 10005)}, {span(5, 5), true, coat(0, 10000, 1, 1), span(-9995, 5)},
		{span(-20000000, 20000000), false, coat(10000, 10000, 1000, 1), span(-10000000, 30000000)}, {span(-20000000, 20000000), true, coat(0, 10000, 1000, 1), span(-30000000, 20000000)},
	} {
		if got, e := zone.After(c.s, c.nut, c.coat); got != c.want || e != api.OK {
			t.Error(i, got, e)
		}
	}
}

// badCoats returns coats each of which passes a limit.
func badCoats() []api.ZoneCoat {
	l := []api.ZoneCoat{{}, coat(0, 1, 1001, 1), coat(0, 1, 1, 1001), coat(0, 1, -1, -1), coat(0, 1, 1, -1), coat(0, 1, -1, 1)}
	for _, s := range badSpans(0, 10000) {
		l = append(l, coat(s.Low, s.High, 1, 1))
	}
	for _, n := range extremes() {
		if n != 1 {
			l = append(l, coat(0, 1, n, 1), coat(0, 1, 1, n), coat(0, 1, n, n))
		}
	}
	return l
}

// TestCoatErrors is for P2.3 and P2.4: arguments that are not valid, also where no diameter would be right.
func TestCoatErrors(t *testing.T) {
	type call func(s api.Span, nut bool, c api.ZoneCoat) (api.Span, api.Errno)
	for name, f := range map[string]call{"Before": zone.Before, "After": zone.After} {
		for _, nut := range []bool{false, true} {
			for _, s := range badSpans(-20000000, 20000000) {
				for _, c := range append(badCoats(), coat(5, 8, 4, 1), coat(0, 10000, 1000, 1)) {
					if got, e := f(s, nut, c); got != (api.Span{}) || e != api.ErrArg {
						t.Error(name, s, nut, c, got, e)
					}
				}
			}
			for _, c := range badCoats() {
				for _, s := range []api.Span{span(5, 5), span(0, 1000000)} {
					if got, e := f(s, nut, c); got != (api.Span{}) || e != api.ErrArg {
						t.Error(name, s, nut, c, got, e)
					}
				}
			}
		}
	}
}

// plated are all diameters of a piece after plating, in parts of a unit.
type plated struct{ low, high, parts int }

// platedBy computes them from thicknesses of thirds of a unit, among them both ends.
func platedBy(d int, nut bool, c api.ZoneCoat) plated {
	parts := 3 * c.Grow.Den
	var p plated
	for t := 3 * c.Thick.Low; t <= 3*c.Thick.High; t++ {
		after := d*parts + t*c.Grow.Num
		if nut {
			after = d*parts - t*c.Grow.Num
		}
		if p.parts == 0 {
			p = plated{low: after, high: after, parts: parts}
		}
		p.low, p.high = min(p.low, after), max(p.high, after)
	}
	return p
}

func (p plated) lies(s api.Span) bool { return s.Low*p.parts <= p.low && p.high <= s.High*p.parts }

// someCoats returns coats with all sorts of shares.
func someCoats() []api.ZoneCoat {
	var l []api.ZoneCoat
	for _, thick := range []api.Span{span(0, 0), span(0, 1), span(1, 1), span(2, 3), span(5, 8), span(0, 7)} {
		for num := 1; num <= 5; num++ {
			for den := 1; den <= 5; den++ {
				l = append(l, api.ZoneCoat{Thick: thick, Grow: api.Ratio{Num: num, Den: den}})
			}
		}
	}
	return l
}

// TestRightAfterPlating is for P2.3, P2.4 and P2.11: a diameter lies within Before just if it lies in the zone after plating whatever the thickness is; After has all diameters after plating, and none of its ends can be nearer.
func TestRightAfterPlating(t *testing.T) {
	for _, c := range someCoats() {
		for _, nut := range []bool{false, true} {
			for _, s := range []api.Span{span(-3, -3), span(0, 1), span(-2, 9), span(100, 140)} {
				before, e := zone.Before(s, nut, c)
				right := 0
				for d := s.Low - 50; d <= s.High+50; d++ {
					if in := platedBy(d, nut, c).lies(s); in != (e == api.OK && lies(span(d, d), before)) {
						t.Error(c, nut, s, before, e, d, in)
					} else if in {
						right++
					}
				}
				if right == 0 && e != api.ErrState || right > 0 && (e != api.OK || before.High-before.Low+1 != right) {
					t.Error(c, nut, s, before, e, right)
				}
				if e == api.OK {
					if after, g := zone.After(before, nut, c); !lies(after, s) || g != api.OK {
						t.Error("After of Before", c, nut, s, before, after, g)
					}
				}
				after, e := zone.After(s, nut, c)
				low, high := platedBy(s.Low, nut, c), platedBy(s.High, nut, c)
				all := plated{low: low.low, high: high.high, parts: low.parts}
				if e != api.OK || !all.lies(after) || all.lies(span(after.Low+1, after.High)) || all.lies(span(after.Low, after.High-1)) {
					t.Error("After", c, nut, s, after, e, all)
				}
			}
		}
	}
}
