package mill_test

import (
	"math/big"
	"testing"

	"acme/api"
	"acme/mill"
)

func checkBlank(t *testing.T, l []api.MillPart, wire api.Span, want api.Span, wantE api.Errno) {
	t.Helper()
	if got, e := mill.Blank(l, wire); got != want || e != wantE {
		t.Error(l, wire, got, e, want, wantE)
	}
}

func checkSpare(t *testing.T, l []api.MillPart, wire, cut api.Span, want api.Span, wantE api.Errno) {
	t.Helper()
	if got, e := mill.Spare(l, wire, cut); got != want || e != wantE {
		t.Error(l, wire, cut, got, e, want, wantE)
	}
}

// TestBlankExample is for P12.2 and P12.3: the chapter's example, and others by hand.
func TestBlankExample(t *testing.T) {
	checkBlank(t, screw(), span(79, 80), span(458, 471), api.OK)
	checkSpare(t, screw(), span(79, 80), span(470, 475), span(-730, 106000), api.OK)
	// 1000 / 100 is even, 1000 / 9 = 111.1.
	checkBlank(t, []api.MillPart{part(10, 10)}, just(10), just(10), api.OK)
	checkBlank(t, []api.MillPart{part(10, 10)}, just(3), span(111, 112), api.OK)
	checkBlank(t, []api.MillPart{part(10, 10)}, span(3, 10), span(10, 112), api.OK)
	checkBlank(t, []api.MillPart{part(1, 1)}, just(100000), span(0, 1), api.OK)
	checkBlank(t, []api.MillPart{part(1, 1)}, just(1), just(1), api.OK)
	checkBlank(t, []api.MillPart{part(2, 3), part(3, 2), part(1, 1)}, span(1, 2), span(7, 31), api.OK)
	checkSpare(t, []api.MillPart{part(10, 10)}, just(10), just(10), just(0), api.OK)
	checkSpare(t, []api.MillPart{part(10, 10)}, just(10), span(9, 11), span(-100, 100), api.OK)
	checkSpare(t, []api.MillPart{part(10, 10)}, span(9, 11), just(10), span(-190, 210), api.OK)
	checkSpare(t, []api.MillPart{part(2, 3), part(3, 2), part(1, 1)}, just(1), span(1, 31), span(-30, 0), api.OK)
}

// TestBlankLimits is for P12.2, P12.3 and R7: as many parts as there may be, as wide and as long as they may be.
func TestBlankLimits(t *testing.T) {
	full := copies(part(100000, 10000000), 10)
	checkBlank(t, full, span(1, 100000), span(100000000, 1000000000000000000), api.OK)
	checkBlank(t, full, just(100000), just(100000000), api.OK)
	checkSpare(t, full, span(1, 100000), span(1, 10000000), span(1-1000000000000000000, 100000000000000000-1000000000000000000), api.OK)
	checkSpare(t, copies(part(1, 1), 1), span(1, 100000), span(1, 10000000), span(0, 99999999999999999), api.OK)
	checkBlank(t, copies(part(1, 1), 10), just(1), just(10), api.OK)
}

// volume returns the volume of parts, as great as it may be.
func volume(l []api.MillPart) *big.Int {
	sum := new(big.Int)
	for _, p := range l {
		sum.Add(sum, product(p.Wide, p.Wide, p.Long))
	}
	return sum
}

func product(factors ...int) *big.Int {
	all := big.NewInt(1)
	for _, n := range factors {
		all.Mul(all, big.NewInt(int64(n)))
	}
	return all
}

// TestBlankSearch is for P12.2 and P12.3, against the volumes of single blanks.
func TestBlankSearch(t *testing.T) {
	r := dice()
	upTo := func(most int) int { return 1 + r.IntN([]int{3, 20, 1000, most}[r.IntN(4)]) }
	for range 3000 {
		var l []api.MillPart
		for range 1 + r.IntN(10) {
			l = append(l, part(upTo(api.MaxMillWire), upTo(api.MaxLength)))
		}
		thin, thick := upTo(api.MaxMillWire), upTo(api.MaxMillWire)
		wire := span(min(thin, thick), max(thin, thick))
		short, long := upTo(api.MaxLength), upTo(api.MaxLength)
		cut := span(min(short, long), max(short, long))
		blank, e := mill.Blank(l, wire)
		whole := volume(l)
		// Low is the greatest length that is not too long in the thickest wire, High the least that is not too short in the thinnest one.
		enough := func(wide, length int) int { return product(wide, wide, length).Cmp(whole) }
		if e != api.OK || enough(wire.High, blank.Low) > 0 || enough(wire.High, blank.Low+1) <= 0 || enough(wire.Low, blank.High) < 0 || enough(wire.Low, blank.High-1) >= 0 {
			t.Error(l, wire, blank, e)
		}
		spare, e := mill.Spare(l, wire, cut)
		least, most := product(wire.Low, wire.Low, cut.Low), product(wire.High, wire.High, cut.High)
		if e != api.OK || least.Sub(least, whole).Int64() != int64(spare.Low) || most.Sub(most, whole).Int64() != int64(spare.High) {
			t.Error(l, wire, cut, spare, e)
		}
	}
}

// wrongParts returns parts that are not as they should be.
func wrongParts() [][]api.MillPart {
	l := [][]api.MillPart{nil, {}, {{}}, make([]api.MillPart, 10)}
	for _, n := range outside(1, api.MaxMillWire) {
		l = append(l, []api.MillPart{part(n, 1)}, append(screw(), part(n, 1)), append(copies(part(1, 1), 9), part(n, 1)), append([]api.MillPart{part(n, 1)}, screw()...))
	}
	for _, n := range outside(1, api.MaxLength) {
		l = append(l, []api.MillPart{part(1, n)}, append(screw(), part(1, n)), append(copies(part(1, 1), 9), part(1, n)), append([]api.MillPart{part(1, n)}, screw()...))
	}
	return l
}

// wrongSpans returns spans that are not valid from 1 to so much.
func wrongSpans(most int) []api.Span {
	l := []api.Span{{}, span(2, 1), span(most, most-1), span(most+1, most)}
	for _, n := range outside(1, most) {
		l = append(l, just(n), span(n, 5), span(5, n), span(n, most), span(1, n))
	}
	return l
}

// TestBlankErrors is for P12.2, P12.3, P1 and R2: the errors, in their order.
func TestBlankErrors(t *testing.T) {
	wires, cuts := wrongSpans(api.MaxMillWire), wrongSpans(api.MaxLength)
	someWires, someCuts := append(wires, span(1, 9)), append(cuts, span(1, 9))
	refused := func(l []api.MillPart, wire, cut api.Span, want api.Errno) {
		t.Helper()
		checkSpare(t, l, wire, cut, api.Span{}, want)
		checkBlank(t, l, wire, api.Span{}, want)
	}
	for _, wire := range someWires {
		for _, cut := range someCuts {
			refused(copies(part(1, 1), 11), wire, cut, api.ErrLong)
			refused(make([]api.MillPart, 11), wire, cut, api.ErrLong)
			refused(make([]api.MillPart, 5000), wire, cut, api.ErrLong)
		}
		for _, l := range wrongParts() {
			refused(l, wire, span(1, 9), api.ErrArg)
			refused(l, wire, api.Span{}, api.ErrArg)
		}
	}
	for _, wire := range wires {
		for _, cut := range someCuts {
			refused(screw(), wire, cut, api.ErrRange)
		}
	}
	for _, cut := range cuts {
		checkSpare(t, screw(), span(79, 80), cut, api.Span{}, api.ErrRange)
	}
}
