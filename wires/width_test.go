package wires_test

import (
	"math/big"
	"slices"
	"testing"

	"acme/api"
	"acme/wires"
)

// TestWidth is for P5.6.
func TestWidth(t *testing.T) {
	known := func(changes ...change) job {
		return example(append([]change{press(just(0)), errs(just(0)), sets(set(just(1), just(1), just(1)))}, changes...)...)
	}
	for i, c := range []struct {
		j    job
		want api.Ratio
	}{
		{example(), ratio(7, 1)},
		{example(func(j *job) { j.sets = j.sets[1:] }), ratio(4, 1)},
		{known(), ratio(0, 1)},
		{known(press(span(3, 5))), ratio(2, 1)},
		{known(errs(span(-5, -2))), ratio(3, 1)},
		{known(sets(set(span(1, 2), just(1), just(1)))), ratio(3, 4)},
		{known(sets(set(just(1), span(1, 3), just(1)))), ratio(3, 2)},
		{known(sets(set(just(1), just(1), span(1, 2)))), ratio(3, 2)},
		{known(angles(api.WiresAngle{Factor: 1001}), sets(set(span(1, 2), just(1), just(1)))), ratio(1001, 4000)},
		{known(pitch(span(10000, 10001))), ratio(433, 500)},
		{known(pitch(span(10000, 10040))), ratio(866, 25)},
		{known(angles(api.WiresAngle{Factor: 3000, Half: 866}, api.WiresAngle{Factor: 3000, Half: 867})), ratio(10, 1)},
		{known(angles(api.WiresAngle{Factor: 3000, Half: 866}, api.WiresAngle{Factor: 3100, Half: 866}), sets(set(just(10), just(20), just(5)))), ratio(1, 1)},
		// The second angle lifts more and lets sink more: 2000 * 4 / 4000 and 1 * 10.
		{known(angles(api.WiresAngle{Factor: 3000, Half: 866}, api.WiresAngle{Factor: 5000, Half: 867})), ratio(8, 1)},
		{known(angles(api.WiresAngle{Factor: 5000, Half: 867}, api.WiresAngle{Factor: 3000, Half: 866})), ratio(8, 1)},
		// 20000 * 100000 / 1000 less 1001 * 99960 / 1000, and 20000 * 200000 / 1000, and 80.
		{known(angles(api.WiresAngle{Factor: 20000}, api.WiresAngle{Factor: 1001, Half: 20000}), pitch(span(199960, 200000)), press(span(0, 40)), errs(span(-1000, -960)), sets(set(span(99960, 100000), span(99960, 100000), span(99960, 100000)))), ratio(147500501, 25)},
	} {
		if got, e := wires.Width(c.j.rules, c.j.sets[0]); got != c.want || e != api.OK {
			t.Error(i, got, e)
		}
	}
}

// widthOf returns by how much the greatest of all values is greater than the least one, found by a search.
func widthOf(j job, s api.WiresSet) *big.Rat {
	var least, greatest *big.Rat
	for angle := range j.rules.Angles {
		for pitch := j.rules.Pitch.Low; pitch <= j.rules.Pitch.High; pitch++ {
			for trio := range allWires(s) {
				value := valueOf(j.rules, api.WiresTruth{Size: 7, Angle: angle, Pitch: pitch, Wires: trio})
				if least == nil || value.Cmp(least) < 0 {
					least = value
				}
				if greatest == nil || value.Cmp(greatest) > 0 {
					greatest = value
				}
			}
		}
	}
	width := new(big.Rat).Sub(greatest, least)
	instrument := j.rules.Press.High - j.rules.Press.Low + j.rules.Error.High - j.rules.Error.Low
	return width.Add(width, big.NewRat(int64(instrument), 1))
}

// is reports whether a ratio is in lowest terms and has the value that is expected.
func is(r api.Ratio, want *big.Rat) bool {
	return want.Num().Cmp(big.NewInt(int64(r.Num))) == 0 && want.Denom().Cmp(big.NewInt(int64(r.Den))) == 0
}

// TestWidthSearch is for P5.6 and P5.7: the same width as a search through all truths has, and the first set of the least one.
func TestWidthSearch(t *testing.T) {
	later := 0
	for _, j := range jobs(1000) {
		best := 0
		for number, s := range j.sets {
			want := widthOf(j, s)
			if got, e := wires.Width(j.rules, s); !is(got, want) || e != api.OK {
				t.Error(j, number, got, want, e)
			}
			if want.Cmp(widthOf(j, j.sets[best])) < 0 {
				best = number
			}
		}
		if got, e := wires.Best(j.rules, j.sets); got != best || e != api.OK {
			t.Error(j, got, best, e)
		}
		if best > 0 {
			later++
		}
	}
	if later < 100 {
		t.Error("the first set is nearly always the best one", later)
	}
}

// TestBest is for P5.7.
func TestBest(t *testing.T) {
	good, bad := set(just(5800), just(5800), just(5800)), set(just(5800), span(5800, 5801), just(5800))
	third := set(just(5800), just(5800), span(5800, 5801))
	for i, c := range []struct {
		j    job
		want int
	}{
		{example(), 1}, {example(sets(good)), 0}, {example(sets(bad)), 0}, {example(sets(good, good)), 0}, {example(sets(bad, good, good)), 1},
		{example(sets(third, bad)), 1}, {example(sets(bad, third)), 0}, {example(sameSets(10)), 0},
		{example(sets(slices.Concat(slices.Repeat([]api.WiresSet{third, bad, bad}, 3), []api.WiresSet{good})...)), 9},
		// Thick wires tell less if there are angles that lift them in other ways.
		{example(angles(api.WiresAngle{Factor: 3000}, api.WiresAngle{Factor: 3001}), sets(set(just(9000), just(9000), just(9000)), good)), 1},
	} {
		if got, e := wires.Best(c.j.rules, c.j.sets); got != c.want || e != api.OK {
			t.Error(i, got, e)
		}
	}
	if got := valueAnswer(wires.Best(example().rules, nil)); got != failed(api.ErrNone) {
		t.Error(got)
	}
	if got := valueAnswer(wires.Best(example().rules, []api.WiresSet{})); got != failed(api.ErrNone) {
		t.Error(got)
	}
}
