package wires_test

import (
	"slices"
	"testing"

	"acme/api"
	"acme/wires"
)

// ofSize returns a truth, changed to another size and angle, and another pitch.
func ofSize(size, angle, pitch int, t api.WiresTruth) api.WiresTruth {
	t.Size, t.Angle, t.Pitch = size, angle, pitch
	return t
}

// trio returns a truth with equal wires.
func trio(wire, press, wrong int) api.WiresTruth {
	return api.WiresTruth{Wires: [3]int{wire, wire, wire}, Press: press, Error: wrong}
}

// plain returns rules and sets in which 1 is added for each unit of the wires (2 of the third one), and 1 less for each unit of the pitch, changed.
func plain(changes ...change) job {
	return steep(append([]change{angles(api.WiresAngle{Factor: 4000, Half: 1000}), pitch(just(1000)), sets(set(just(100), just(100), just(100))), shows(0, -600)}, changes...)...)
}

// TestEnds is for P5.4.
func TestEnds(t *testing.T) {
	first, second := api.WiresAngle{Factor: 4000, Half: 1000}, api.WiresAngle{Factor: 8000, Half: 1000}
	mixed := [3]int{6000, 6000, 6001}
	for i, c := range []struct {
		j         job
		low, high []api.WiresTruth
	}{
		{example(shows(0, 102845)), []api.WiresTruth{ofSize(93501, 0, 10000, trio(6001, 0, 1))}, []api.WiresTruth{ofSize(93508, 0, 10000, trio(6000, 2, -1))}},
		// 93503 + 18000 - 8660 is 102843: two less than what is shown, of which the smallest wires add one.
		{example(), []api.WiresTruth{ofSize(93501, 0, 10000, trio(6001, 0, 1)), ofSize(93501, 0, 10000, trio(5800, 0, -1))}, []api.WiresTruth{truth(93503, mixed, 0, 1), ofSize(93503, 0, 10000, trio(5800, 2, -1))}},
		{plain(), []api.WiresTruth{ofSize(0, 0, 1000, trio(100, 0, 0))}, []api.WiresTruth{ofSize(0, 0, 1000, trio(100, 0, 0))}},
		// Both angles are the same.
		{plain(angles(first, first)), []api.WiresTruth{ofSize(0, 0, 1000, trio(100, 0, 0))}, []api.WiresTruth{ofSize(0, 0, 1000, trio(100, 0, 0))}},
		// All pitches are the same for flanks that do not let a wire sink.
		{plain(angles(api.WiresAngle{Factor: 4000}), pitch(span(1000, 1040))), []api.WiresTruth{ofSize(-1000, 0, 1000, trio(100, 0, 0))}, []api.WiresTruth{ofSize(-1000, 0, 1000, trio(100, 0, 0))}},
		// The least size is one of the second angle, the greatest one of the first one.
		{plain(angles(first, second), pitch(span(1000, 1040))), []api.WiresTruth{ofSize(-400, 1, 1000, trio(100, 0, 0))}, []api.WiresTruth{ofSize(40, 0, 1040, trio(100, 0, 0))}},
		// In the groove of the second angle wires sink by 1041.04 with the greater pitch: by 1042 in all.
		{plain(angles(first, api.WiresAngle{Factor: 4000, Half: 1040}), pitch(span(1000, 1001))), []api.WiresTruth{ofSize(0, 0, 1000, trio(100, 0, 0))}, []api.WiresTruth{ofSize(42, 1, 1001, trio(100, 0, 0))}},
		// Press comes before Error.
		{plain(press(span(3, 5)), errs(span(3, 5))), []api.WiresTruth{ofSize(-2, 0, 1000, trio(100, 3, 5))}, []api.WiresTruth{ofSize(2, 0, 1000, trio(100, 5, 3))}},
	} {
		low, high, e := wires.Ends(c.j.rules, c.j.sets, c.j.readings)
		if !slices.Equal(low, c.low) || !slices.Equal(high, c.high) || e != api.OK {
			t.Error(i, low, high, e)
		}
	}
}

// TestEndsSmallest is for P5.4: where the other readings leave a reading many truths of a size, the first wire is the smallest, then the second one, the third one, and Press.
func TestEndsSmallest(t *testing.T) {
	wide := span(100, 110)
	j := plain(press(span(0, 4)), errs(span(0, 4)), sets(set(just(100), just(100), just(100)), set(wide, wide, wide)), shows(0, -600, 1, -580))
	// The first reading allows -4 to 4, the second one -24 to 24.
	wantLow := []api.WiresTruth{ofSize(-4, 0, 1000, trio(100, 0, 4)), ofSize(-4, 0, 1000, api.WiresTruth{Wires: [3]int{100, 100, 110}, Error: 4})}
	wantHigh := []api.WiresTruth{ofSize(4, 0, 1000, trio(100, 4, 0)), ofSize(4, 0, 1000, api.WiresTruth{Wires: [3]int{100, 100, 106}, Error: 4})}
	low, high, e := wires.Ends(j.rules, j.sets, j.readings)
	if !slices.Equal(low, wantLow) || !slices.Equal(high, wantHigh) || e != api.OK {
		t.Error(low, high, e)
	}
	j.readings[1].Shown = -570
	wantLow[1] = ofSize(-4, 0, 1000, api.WiresTruth{Wires: [3]int{100, 110, 110}, Error: 4})
	wantHigh[1] = ofSize(4, 0, 1000, api.WiresTruth{Wires: [3]int{100, 102, 110}, Error: 4})
	low, high, e = wires.Ends(j.rules, j.sets, j.readings)
	if !slices.Equal(low, wantLow) || !slices.Equal(high, wantHigh) || e != api.OK {
		t.Error(low, high, e)
	}
	// The smallest wires do: Press and Error are as great as each other, so both are as small as they can be.
	j.readings[1].Shown = -604
	wantLow[1] = ofSize(-4, 0, 1000, trio(100, 0, 0))
	if low, _, e = wires.Ends(j.rules, j.sets, j.readings); !slices.Equal(low, wantLow) || e != api.OK {
		t.Error(low, e)
	}
}

// smallestTruths returns what Ends should return for a size, found by a search.
func smallestTruths(sights []sight, size int) []api.WiresTruth {
	for _, s := range sights {
		if !slices.Contains(s.agreed(), size) {
			continue
		}
		var l []api.WiresTruth
		for _, truths := range s.truths {
			l = append(l, truths[size])
		}
		return l
	}
	return nil
}

// TestEndsSearch is for P5.4: the same truths as the first ones that a search in ascending order finds.
func TestEndsSearch(t *testing.T) {
	for _, j := range jobs(2000) {
		sights := search(j)
		sizes := sizesOf(sights)
		low, high, e := wires.Ends(j.rules, j.sets, j.readings)
		if len(sizes) == 0 {
			if len(low) != 0 || len(high) != 0 || e != api.ErrState {
				t.Error(j, low, high, e)
			}
			continue
		}
		if want := smallestTruths(sights, sizes[0]); !slices.Equal(low, want) || e != api.OK {
			t.Error(j, low, want, e)
		}
		if want := smallestTruths(sights, sizes[len(sizes)-1]); !slices.Equal(high, want) {
			t.Error(j, high, want)
		}
	}
}
