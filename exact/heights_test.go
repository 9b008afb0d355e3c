package exact_test

import (
	"math"
	"testing"

	"acme/api"
	"acme/exact"
)

func heights(low, high int) exact.Heights {
	return exact.Heights{Span: api.Span{Low: low, High: high}}
}

func TestHeightsValid(t *testing.T) {
	for i, c := range []struct {
		low, high int
		want      bool
	}{
		{-200000, 200000, true}, {-200000, -200000, true}, {200000, 200000, true}, {0, 0, true}, {-3000, 2000, true},
		{-200001, 200000, false}, {-200000, 200001, false}, {1, 0, false}, {200001, 200001, false}, {math.MinInt, math.MaxInt, false}, {math.MaxInt, math.MinInt, false},
	} {
		if got := heights(c.low, c.high).Valid(); got != c.want {
			t.Error(i, got)
		}
	}
}

func TestHeightsOverlap(t *testing.T) {
	for i, c := range []struct{ low, high, screwLean, nutLean, want int }{
		{-3000, 2000, 577, 577, 0}, {0, 0, 500, 600, 0},
		// The nut leans more: it is narrower above the pitch line.
		{-3000, 2000, 500, 600, 200000}, {1000, 2000, 500, 600, 200000}, {-3000, -2000, 500, 600, -200000}, {-3000, 0, 500, 600, 0},
		// The screw does: it is wider below the pitch line.
		{-3000, 2000, 600, 500, 300000}, {-3000, -2000, 600, 500, 300000}, {1000, 2000, 600, 500, -100000}, {0, 2000, 600, 500, 0},
		{-200000, 200000, 3000, 0, 600000000}, {-200000, 200000, 0, 3000, 600000000}, {200000, 200000, 3000, 0, -600000000},
	} {
		if got := heights(c.low, c.high).Overlap(c.screwLean, c.nutLean); got != c.want {
			t.Error(i, got)
		}
	}
}
