package gauge_test

import (
	"slices"
	"testing"

	"acme/api"
	"acme/gauge"
)

// beyond keeps both results of Beyond together.
type beyond struct{ surely, possibly bool }

// gain keeps both results of Gain together.
type gain struct{ least, most int }

// forBoth does something with a plug and a limit, and with the ring and the limit that they are if they are turned round.
func forBoth(r api.GaugeRules, limit int, check func(r api.GaugeRules, limit int)) {
	check(r, limit)
	check(turnedRound(r), api.MaxLength-limit)
}

// TestBeyond is for P4.6.
func TestBeyond(t *testing.T) {
	not, can, is := beyond{}, beyond{possibly: true}, beyond{surely: true, possibly: true}
	for _, c := range []struct {
		l     history
		limit int
		want  beyond
	}{
		{events(tried(200)), 4992, can}, {events(tried(200)), 4990, not}, {events(tried(200)), 4991, can}, {events(tried(200)), 5006, can}, {events(tried(200)), 5007, is},
		{nil, 5000, not}, {nil, 5001, can}, {nil, 5010, can}, {nil, 5011, is}, {nil, 0, not}, {nil, 10000000, is},
		{events(tried(200), stays(0)), 4996, not}, {events(tried(200), stays(0)), 4997, can}, {events(tried(200), goes(0)), 4998, is}, {events(tried(200), goes(0)), 4997, can},
		// Sizes below 0.
		{events(tried(100000), tried(100000)), 0, can}, {events(tried(100000), tried(100000)), 1010, can}, {events(tried(100000), tried(100000)), 1011, is},
		{slices.Repeat(events(tried(100000)), 100), 0, is},
	} {
		forBoth(example(), c.limit, func(r api.GaugeRules, limit int) {
			surely, possibly, e := gauge.Beyond(r, c.l, limit)
			if got := (beyond{surely, possibly}); got != c.want || e != api.OK {
				t.Error(r, c.l, limit, got, e)
			}
		})
	}
}

// TestLasts is for P4.7.
func TestLasts(t *testing.T) {
	worn := func(low, high int) change {
		return func(r *api.GaugeRules) { r.Wear = span(low, high) }
	}
	for _, c := range []struct {
		r      api.GaugeRules
		l      history
		limit  int
		pieces int
		e      api.Errno
	}{
		{example(), events(tried(200)), 4992, 0, api.ErrNone}, {example(), events(tried(200)), 4980, 200, api.OK}, {example(), events(tried(200)), 4990, 0, api.OK}, {example(), events(tried(200)), 4989, 20, api.OK}, {example(), events(tried(200)), 4991, 0, api.ErrNone},
		{example(), events(tried(200), stays(0)), 4980, 320, api.OK}, {example(), nil, 4980, 400, api.OK}, {example(), nil, 0, 100000, api.OK}, {example(), nil, 5001, 0, api.ErrNone}, {example(), nil, 10000000, 0, api.ErrNone},
		// As many pieces as there may be in one event, and one fewer.
		{example(worn(0, 50)), nil, 1, 99980, api.OK}, {example(worn(0, 50)), nil, 0, 100000, api.OK},
		{example(worn(0, 49)), nil, 99, 100000, api.OK}, {example(worn(0, 49)), nil, 100, 100000, api.OK}, {example(worn(0, 49)), nil, 101, 99979, api.OK},
		// What is left is not a whole number of pieces.
		{example(worn(7, 7)), nil, 4999, 142, api.OK}, {example(worn(7, 7)), nil, 4998, 285, api.OK}, {example(worn(7, 7)), nil, 4993, 1000, api.OK},
		// One piece wears it too much.
		{example(worn(0, 1001)), nil, 4999, 0, api.OK}, {example(worn(0, 1000)), nil, 4999, 1, api.OK}, {example(worn(0, 10000)), nil, 4991, 0, api.OK}, {example(worn(0, 10000)), nil, 4990, 1, api.OK}, {example(worn(10000, 10000)), nil, 0, 500, api.OK},
		// Without wear it lasts, if it is not beyond the limit already.
		{example(worn(0, 0)), nil, 5000, 100000, api.OK}, {example(worn(0, 0)), nil, 5001, 0, api.ErrNone}, {example(worn(0, 0)), nil, 5011, 0, api.ErrNone},
	} {
		forBoth(c.r, c.limit, func(r api.GaugeRules, limit int) {
			if got, e := gauge.Lasts(r, c.l, limit); got != c.pieces || e != c.e {
				t.Error(r, c.l, limit, got, e, c.pieces, c.e)
			}
		})
	}
}

// TestGain is for P4.8.
func TestGain(t *testing.T) {
	for _, c := range []struct {
		l             history
		limit, master int
		want          gain
	}{
		{events(tried(200)), 4980, 0, gain{200, 320}}, {events(tried(200)), 4990, 0, gain{0, 120}},
		// If it goes, it can be beyond the limit.
		{events(tried(200)), 4991, 0, gain{0, 100}}, {events(tried(200)), 4996, 0, gain{0, 0}}, {events(tried(200)), 4997, 0, gain{0, 0}},
		// Just one result does not contradict.
		{nil, 4980, 0, gain{400, 400}}, {nil, 4980, 1, gain{400, 400}}, {events(tried(200), goes(0)), 4980, 1, gain{200, 200}}, {events(tried(2000)), 4880, 0, gain{400, 400}},
		{events(tried(200)), 4992, 1, gain{0, 0}}, {nil, 10000000, 1, gain{0, 0}},
		{events(tried(200), stays(0)), 4980, 0, gain{320, 320}},
		{events(tried(200), stays(0), tried(20)), 4980, 0, gain{300, 320}},
		{nil, 0, 0, gain{100000, 100000}},
	} {
		forBoth(example(), c.limit, func(r api.GaugeRules, limit int) {
			least, most, e := gauge.Gain(r, c.l, limit, c.master)
			if got := (gain{least, most}); got != c.want || e != api.OK {
				t.Error(r, c.l, limit, c.master, got, e)
			}
		})
	}
}

// TestGainOfFull is for P4.8: the check is one more event than there may be.
func TestGainOfFull(t *testing.T) {
	full := and(slices.Repeat(events(stays(0)), 99), tried(200))
	for _, l := range []history{full, full[1:]} {
		forBoth(example(), 4980, func(r api.GaugeRules, limit int) {
			least, most, e := gauge.Gain(r, l, limit, 0)
			if got := (gain{least, most}); got != (gain{200, 320}) || e != api.OK {
				t.Error(r, len(l), got, e)
			}
		})
	}
}

// lastsIn returns on how many pieces a gauge of a world can be tried: number by number, but no more than some.
func lastsIn(r api.GaugeRules, w world, limit, most int) (int, api.Errno) {
	if isBeyond(r.Ring, w.size.Low, limit) || isBeyond(r.Ring, w.size.High, limit) {
		return 0, api.ErrNone
	}
	for pieces := range most {
		worn := wornBy(r.Wear, pieces+1).High
		if isBeyond(r.Ring, w.size.Low-worn, limit) && !r.Ring || isBeyond(r.Ring, w.size.High+worn, limit) && r.Ring {
			return pieces, api.OK
		}
	}
	return most, api.OK
}

// limitAfter returns the limit that a gauge reaches at first after so many units; below 0, it can be beyond it.
func limitAfter(r api.GaugeRules, size api.Span, units int) int {
	if r.Ring {
		return min(max(size.High+units, 0), api.MaxLength)
	}
	return min(max(size.Low-units, 0), api.MaxLength)
}

// TestLastsSearch is for P4.6, P4.7 and P4.8: truth by truth, and piece by piece.
func TestLastsSearch(t *testing.T) {
	r := dice()
	beyonds, lasted, gained := map[beyond]int{}, map[api.Errno]int{}, 0
	for range 3000 {
		rules := anyRules(r)
		l := anyTruth(r, rules, r.IntN(8)).events
		w := search(rules, l)
		limit := limitAfter(rules, w.size, r.IntN(16)-8)
		want := beyond{
			isBeyond(rules.Ring, w.size.Low, limit) && isBeyond(rules.Ring, w.size.High, limit),
			isBeyond(rules.Ring, w.size.Low, limit) || isBeyond(rules.Ring, w.size.High, limit),
		}
		surely, possibly, e := gauge.Beyond(rules, l, limit)
		if got := (beyond{surely, possibly}); got != want || e != api.OK {
			t.Error("Beyond", rules, l, limit, got, e, want)
		}
		beyonds[want]++
		pieces, wantE := lastsIn(rules, w, limit, api.MaxGaugePieces)
		if got, e := gauge.Lasts(rules, l, limit); got != pieces || e != wantE {
			t.Error("Lasts", rules, l, limit, got, e, pieces, wantE)
		}
		lasted[wantE]++
		for master := range rules.Masters {
			wantGain := gain{least: api.MaxGaugePieces}
			for _, check := range events(goes(master), stays(master)) {
				if after := search(rules, and(l, check)); after.real {
					pieces, _ := lastsIn(rules, after, limit, api.MaxGaugePieces)
					wantGain = gain{min(wantGain.least, pieces), max(wantGain.most, pieces)}
				}
			}
			least, most, e := gauge.Gain(rules, l, limit, master)
			if got := (gain{least, most}); got != wantGain || e != api.OK {
				t.Error("Gain", rules, l, limit, master, got, e, wantGain)
			}
			if most > least {
				gained++
			}
		}
	}
	if len(beyonds) != 3 || lasted[api.OK] < 500 || lasted[api.ErrNone] < 500 || gained < 100 {
		t.Error("the search has not all answers", beyonds, lasted, gained)
	}
}
