package swap_test

import (
	"slices"
	"testing"

	"acme/api"
	"acme/swap"
)

// usualLot returns the lot of the chapter's example 5, changed.
func usualLot(changes ...func(x *api.SwapLot)) api.SwapLot {
	x := api.SwapLot{Country: api.SwapAny, Years: span(1935, 1940), Pitch: span(9990, 10030), Pieces: []api.Span{span(-30, -10)}}
	for _, c := range changes {
		c(&x)
	}
	return x
}

// wideLot returns a lot of which nothing is known, changed.
func wideLot(changes ...func(x *api.SwapLot)) api.SwapLot {
	x := api.SwapLot{Country: api.SwapAny, Years: span(0, 3000), Pitch: span(0, 10000000)}
	for _, c := range changes {
		c(&x)
	}
	return x
}

func country(n int) func(x *api.SwapLot) { return func(x *api.SwapLot) { x.Country = n } }

func years(s api.Span) func(x *api.SwapLot) { return func(x *api.SwapLot) { x.Years = s } }

func ofPitch(s api.Span) func(x *api.SwapLot) { return func(x *api.SwapLot) { x.Pitch = s } }

func pieces(l ...api.Span) func(x *api.SwapLot) { return func(x *api.SwapLot) { x.Pieces = l } }

// lands returns standards of three countries, with the limits of countries and years.
func lands() []api.SwapStandard {
	l := append(examples(), examples()...)
	l[0].Country, l[1].Country, l[2].Country, l[3].Country = 0, 1000, 4, 0
	l[0].Years, l[1].Years, l[2].Years, l[3].Years = just(0), span(1920, 3000), just(1920), span(0, 1920)
	return l
}

// TestValid is for P8.7: the chapter's example 5, and others.
func TestValid(t *testing.T) {
	for i, c := range []struct {
		l             []api.SwapStandard
		country, year int
		want          []int
	}{
		{examples(), 4, 1925, []int{0, 1}}, {examples(), 4, 1899, nil}, {examples(), 4, 1900, []int{0}}, {examples(), 4, 1919, []int{0}}, {examples(), 4, 1920, []int{0, 1}}, {examples(), 4, 1930, []int{0, 1}}, {examples(), 4, 1931, []int{1}}, {examples(), 4, 1980, []int{1}}, {examples(), 4, 1981, nil},
		{examples(), 3, 1925, nil}, {examples(), 5, 1925, nil}, {examples(), 0, 0, nil}, {examples(), 1000, 3000, nil}, {nil, 4, 1925, nil},
		{lands(), 0, 0, []int{0, 3}}, {lands(), 0, 1, []int{3}}, {lands(), 0, 1920, []int{3}}, {lands(), 0, 1921, nil}, {lands(), 1000, 1920, []int{1}}, {lands(), 1000, 3000, []int{1}}, {lands(), 1000, 1919, nil}, {lands(), 4, 1920, []int{2}}, {lands(), 4, 1919, nil}, {lands(), 4, 1921, nil},
		{slices.Repeat(examples()[:1], 12), 4, 1900, []int{0, 1, 2, 3, 4, 5, 6, 7, 8, 9, 10, 11}},
	} {
		if got, e := swap.Valid(c.l, c.country, c.year); !slices.Equal(got, c.want) || e != api.OK {
			t.Error(i, got, e)
		}
	}
}

// TestValidErrors is for P8.7's errors; that a country is not known is one of them.
func TestValidErrors(t *testing.T) {
	for _, l := range goodLists() {
		for _, n := range append(outside(0, 1000), api.SwapAny) {
			if got := listAnswer(swap.Valid(l, n, 1925)); got != failed(api.ErrRange) {
				t.Error(l, n, got)
			}
		}
		for _, n := range outside(0, 3000) {
			if got := listAnswer(swap.Valid(l, 4, n)); got != failed(api.ErrRange) {
				t.Error(l, n, got)
			}
		}
	}
}

// TestLot is for P8.8: the chapter's example 5, and each end of each span.
func TestLot(t *testing.T) {
	for i, c := range []struct {
		x    api.SwapLot
		want []int
	}{
		{usualLot(), []int{1}}, {wideLot(), []int{0, 1}}, {wideLot(country(4)), []int{0, 1}}, {wideLot(country(3)), nil}, {wideLot(country(0)), nil}, {wideLot(country(1000)), nil},
		{wideLot(years(span(0, 1899))), nil}, {wideLot(years(span(0, 1900))), []int{0}}, {wideLot(years(span(1930, 1935))), []int{0, 1}}, {wideLot(years(span(1931, 1935))), []int{1}}, {wideLot(years(just(1919))), []int{0}}, {wideLot(years(just(1920))), []int{0, 1}}, {wideLot(years(span(1980, 3000))), []int{1}}, {wideLot(years(span(1981, 3000))), nil}, {wideLot(years(span(1925, 1926))), []int{0, 1}},
		{wideLot(ofPitch(just(10000))), []int{0}}, {wideLot(ofPitch(just(10020))), []int{1}}, {wideLot(ofPitch(span(10000, 10020))), []int{0, 1}}, {wideLot(ofPitch(span(10001, 10019))), nil}, {wideLot(ofPitch(span(0, 10000))), []int{0}}, {wideLot(ofPitch(span(10020, 10000000))), []int{1}}, {wideLot(ofPitch(just(0))), nil}, {wideLot(ofPitch(span(0, 9999))), nil},
		{wideLot(pieces(span(-100, -60))), []int{0, 1}}, {wideLot(pieces(span(-100, -61))), nil}, {wideLot(pieces(span(-20, 10000))), []int{0, 1}}, {wideLot(pieces(span(-19, 10000))), nil}, {wideLot(pieces(span(-40, -30))), []int{0, 1}}, {wideLot(pieces(sizes())), []int{0, 1}},
		{wideLot(pieces(just(-30), just(-60), just(-20))), []int{0, 1}}, {wideLot(pieces(just(-30), just(-61), just(-20))), nil}, {wideLot(pieces(just(-30), just(-30), just(-19))), nil}, {wideLot(pieces(just(0))), nil},
		{wideLot(pieces(slices.Repeat([]api.Span{just(-30)}, 50)...)), []int{0, 1}}, {wideLot(pieces(append(slices.Repeat([]api.Span{just(-30)}, 49), just(0))...)), nil}, {wideLot(country(4), years(just(1900)), ofPitch(just(10000)), pieces(just(-60))), []int{0}},
	} {
		if got, e := swap.Lot(examples(), c.x); !slices.Equal(got, c.want) || e != api.OK {
			t.Error(i, got, e)
		}
	}
	for i, c := range []struct {
		x    api.SwapLot
		want []int
	}{
		{wideLot(), []int{0, 1, 2, 3}}, {wideLot(country(0)), []int{0, 3}}, {wideLot(country(1000)), []int{1}}, {wideLot(country(4)), []int{2}}, {wideLot(years(just(0))), []int{0, 3}}, {wideLot(years(just(3000))), []int{1}}, {wideLot(country(0), years(span(1, 3000))), []int{3}},
	} {
		if got, e := swap.Lot(lands(), c.x); !slices.Equal(got, c.want) || e != api.OK {
			t.Error("lands", i, got, e)
		}
	}
}

// TestLotScrews is for P8.8: the sizes of screws of each standard count, not those of nuts.
func TestLotScrews(t *testing.T) {
	l := []api.SwapStandard{of(metric(), span(-60, -40), span(-50, 20)), of(metric(), span(-50, -20), span(0, 30)), of(metric(), span(-10, 30), span(-60, 0))}
	for i, c := range []struct {
		pieces []api.Span
		want   []int
	}{
		{nil, []int{0, 1, 2}}, {[]api.Span{just(-45)}, []int{0, 1}}, {[]api.Span{just(-45), just(-51)}, []int{0}}, {[]api.Span{just(-45), span(-60, -30)}, []int{0, 1}}, {[]api.Span{just(-45), span(-30, 0)}, []int{1}}, {[]api.Span{span(-60, 30), span(-30, 0)}, []int{1, 2}}, {[]api.Span{just(-60), just(30)}, nil}, {[]api.Span{just(0)}, []int{2}},
	} {
		if got, e := swap.Lot(l, wideLot(pieces(c.pieces...))); !slices.Equal(got, c.want) || e != api.OK {
			t.Error(i, got, e)
		}
	}
	if got, e := swap.Lot(nil, usualLot()); len(got) != 0 || e != api.OK {
		t.Error(got, e)
	}
}

// TestLotErrors is for P8.8's errors and their order, with each limit reached and passed by one.
func TestLotErrors(t *testing.T) {
	var wrong []api.SwapLot
	for _, n := range append(outside(-1, 1000), -2) {
		wrong = append(wrong, usualLot(country(n)))
	}
	for _, s := range badSpans(0, 3000) {
		wrong = append(wrong, usualLot(years(s)))
	}
	for _, s := range badSpans(0, 10000000) {
		wrong = append(wrong, usualLot(ofPitch(s)))
	}
	for _, s := range badSpans(-10000, 10000) {
		wrong = append(wrong, usualLot(pieces(s)), usualLot(pieces(just(0), s)), usualLot(pieces(s, just(0))), usualLot(pieces(append(make([]api.Span, 49), s)...)))
	}
	for _, l := range goodLists() {
		for _, x := range wrong {
			if got := listAnswer(swap.Lot(l, x)); got != failed(api.ErrArg) {
				t.Error(l, x, got)
			}
		}
		for _, x := range append(wrong, usualLot(), wideLot()) {
			for _, count := range []int{51, 5000} {
				pieces(slices.Repeat(append(x.Pieces, just(0))[:1], count)...)(&x)
				if got := listAnswer(swap.Lot(l, x)); got != failed(api.ErrLong) {
					t.Error(l, x, got)
				}
			}
		}
		for _, x := range []api.SwapLot{{}, wideLot(country(1000), years(just(3000)), ofPitch(just(10000000))), wideLot(pieces(just(-10000), just(10000), sizes()))} {
			if _, e := swap.Lot(l, x); e != api.OK {
				t.Error(l, x, e)
			}
		}
	}
}
