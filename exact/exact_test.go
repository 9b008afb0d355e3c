package exact_test

import (
	"math"
	"testing"

	"acme/api"
	"acme/exact"
)

func TestAllFrom(t *testing.T) {
	for i, c := range []struct {
		low, high int
		values    []int
		want      bool
	}{
		{1, 3, nil, true},
		{1, 3, []int{1, 2, 3}, true},
		{1, 3, []int{0, 2}, false},
		{1, 3, []int{2, 4}, false},
		{-3, -1, []int{-3, -1}, true},
		{-3, -1, []int{math.MinInt}, false},
		{-3, -1, []int{math.MaxInt}, false},
	} {
		if got := exact.AllFrom(c.low, c.high, c.values...); got != c.want {
			t.Error(i, got)
		}
	}
}

func TestValidSpan(t *testing.T) {
	for i, c := range []struct {
		low, high int
		want      bool
	}{
		{-5, 7, true}, {-5, -5, true}, {7, 7, true}, {0, 0, true},
		{-6, 7, false}, {-5, 8, false}, {1, 0, false}, {8, 8, false}, {-6, -6, false},
		{math.MinInt, math.MaxInt, false}, {math.MaxInt, math.MinInt, false},
	} {
		if got := exact.ValidSpan(api.Span{Low: c.low, High: c.high}, -5, 7); got != c.want {
			t.Error(i, got)
		}
	}
}

func TestRatio(t *testing.T) {
	for i, c := range []struct{ num, den, wantNum, wantDen int }{
		{0, 5, 0, 1}, {0, 1, 0, 1}, {6, 4, 3, 2}, {-6, 4, -3, 2}, {-6, 3, -2, 1},
		{7, 1, 7, 1}, {7, 7, 1, 1}, {3, 9, 1, 3}, {1, 1000, 1, 1000}, {-1, 1000, -1, 1000},
	} {
		if got := exact.Ratio(c.num, c.den); got != (api.Ratio{Num: c.wantNum, Den: c.wantDen}) {
			t.Error(i, got)
		}
	}
}

func TestRoundUp(t *testing.T) {
	for i, c := range []struct{ num, den, want int }{
		{0, 3, 0}, {1, 3, 1}, {2, 3, 1}, {3, 3, 1}, {4, 3, 2}, {-1, 3, 0}, {-3, 3, -1}, {-4, 3, -1}, {7, 1, 7},
	} {
		if got := exact.RoundUp(c.num, c.den); got != c.want {
			t.Error(i, got)
		}
	}
}

func TestRoundDown(t *testing.T) {
	for i, c := range []struct{ num, den, want int }{
		{0, 3, 0}, {1, 3, 0}, {2, 3, 0}, {3, 3, 1}, {4, 3, 1}, {-1, 3, -1}, {-3, 3, -1}, {-4, 3, -2}, {7, 1, 7},
	} {
		if got := exact.RoundDown(c.num, c.den); got != c.want {
			t.Error(i, got)
		}
	}
}
