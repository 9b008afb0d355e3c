package exact_test

import (
	"math"
	"testing"

	"acme/api"
	"acme/exact"
)

func TestAllFrom(t *testing.T) {
	for i, c := range []struct {
		low, high int
		values    []int
		want      bool
	}{
		{1, 3, nil, true},
		{1, 3, []int{1, 2, 3}, true},
		{1, 3, []int{0, 2}, false},
		{1, 3, []int{2, 4}, false},
		{-3, -1, []int{-3, -1}, true},
		{-3, -1, []int{math.MinInt}, false},
		{-3, -1, []int{math.MaxInt}, false},
	} {
		if got := exact.AllFrom(c.low, c.high, c.values...); got != c.want {
			t.Error(i, got)
		}
	}
}

func TestValidSpan(t *testing.T) {
	for i, c := range []struct {
		low, high int
		want      bool
	}{
		{-5, 7, true}, {-5, -5, true}, {7, 7, true}, {0, 0, true},
		{-6, 7, false}, {-5, 8, false}, {1, 0, false}, {8, 8, false}, {-6, -6, false},
		{math.MinInt, math.MaxInt, false}, {math.MaxInt, math.MinInt, false},
	} {
		if got := exact.ValidSpan(api.Span{Low: c.low, High: c.high}, -5, 7); got != c.want {
			t.Error(i, got)
		}
	}
}

func TestValidSpans(t *testing.T) {
	whole, low, high := api.Span{Low: -5, High: 7}, api.Span{Low: -6, High: 7}, api.Span{Low: -5, High: 8}
	for i, c := range []struct {
		spans []api.Span
		want  bool
	}{
		{nil, true}, {[]api.Span{whole}, true}, {[]api.Span{whole, {}, whole}, true},
		{[]api.Span{low}, false}, {[]api.Span{low, whole}, false}, {[]api.Span{whole, high}, false}, {[]api.Span{{}, {Low: 1}, {}}, false},
	} {
		if got := exact.ValidSpans(-5, 7, c.spans...); got != c.want {
			t.Error(i, got)
		}
	}
}

func TestCommon(t *testing.T) {
	span := func(low, high int) api.Span { return api.Span{Low: low, High: high} }
	for i, c := range []struct {
		first  api.Span
		others []api.Span
		want   api.Span
	}{
		{span(-5, 7), nil, span(-5, 7)}, {span(-5, 7), []api.Span{span(-9, 9)}, span(-5, 7)}, {span(-5, 7), []api.Span{span(-4, 9)}, span(-4, 7)}, {span(-5, 7), []api.Span{span(-6, 6)}, span(-5, 6)},
		{span(-5, 7), []api.Span{span(1, 2)}, span(1, 2)}, {span(-5, 7), []api.Span{span(0, 9), span(-9, 3)}, span(0, 3)}, {span(-5, 7), []api.Span{span(7, 9)}, span(7, 7)},
		// Nothing is in both.
		{span(-5, 7), []api.Span{span(8, 9)}, span(8, 7)}, {span(-5, 7), []api.Span{span(3, 9), span(-9, 2)}, span(3, 2)},
	} {
		if got := exact.Common(c.first, c.others...); got != c.want {
			t.Error(i, got)
		}
	}
}

func TestRatio(t *testing.T) {
	for i, c := range []struct{ num, den, wantNum, wantDen int }{
		{0, 5, 0, 1}, {0, 1, 0, 1}, {6, 4, 3, 2}, {-6, 4, -3, 2}, {-6, 3, -2, 1},
		{7, 1, 7, 1}, {7, 7, 1, 1}, {3, 9, 1, 3}, {1, 1000, 1, 1000}, {-1, 1000, -1, 1000},
	} {
		if got := exact.Ratio(c.num, c.den); got != (api.Ratio{Num: c.wantNum, Den: c.wantDen}) {
			t.Error(i, got)
		}
	}
}

func TestRoundUp(t *testing.T) {
	for i, c := range []struct{ num, den, want int }{
		{0, 3, 0}, {1, 3, 1}, {2, 3, 1}, {3, 3, 1}, {4, 3, 2}, {-1, 3, 0}, {-3, 3, -1}, {-4, 3, -1}, {7, 1, 7},
	} {
		if got := exact.RoundUp(c.num, c.den); got != c.want {
			t.Error(i, got)
		}
	}
}

func TestRoundDown(t *testing.T) {
	for i, c := range []struct{ num, den, want int }{
		{0, 3, 0}, {1, 3, 0}, {2, 3, 0}, {3, 3, 1}, {4, 3, 1}, {-1, 3, -1}, {-3, 3, -1}, {-4, 3, -2}, {7, 1, 7},
	} {
		if got := exact.RoundDown(c.num, c.den); got != c.want {
			t.Error(i, got)
		}
	}
}
