package lead_test

import (
	"math/rand/v2"
	"slices"
	"testing"

	"acme/api"
	"acme/lead"
)

func splitAnswer(turns, drunk []int, e api.Errno) answer {
	return answer{zero: turns == nil && drunk == nil, e: e}
}

// TestSplitExample is for P6.7: the chapter's example 5, and further ones.
func TestSplitExample(t *testing.T) {
	for i, c := range []struct {
		errors       []int
		angles       int
		turns, drunk []int
	}{
		{[]int{0, 6, 4, 8, 4}, 2, []int{0, 4, 4}, []int{0, 4}}, {[]int{5, -3}, 1, []int{5, -3}, []int{0}}, {[]int{7, 7, 7}, 2, []int{7, 7}, []int{0, 0}},
		{[]int{0, 3, 0, -3, -4, -2, -6, -10, -12}, 4, []int{0, -4, -12}, []int{0, 4, 2, 0}}, {[]int{-1, 9, -7}, 2, []int{-1, -7}, []int{0, 13}},
		{[]int{-10000, 0, -10000}, 2, []int{-10000, -10000}, []int{0, 10000}}, {[]int{10000, 0, 10000}, 2, []int{10000, 10000}, []int{0, -10000}},
		{make([]int, 200), 1, make([]int, 200), make([]int, 1)}, {make([]int, 199*24+1), 24, make([]int, 200), make([]int, 24)}, {make([]int, 25), 24, make([]int, 2), make([]int, 24)},
	} {
		turns, drunk, e := lead.Split(c.errors, c.angles)
		if !slices.Equal(turns, c.turns) || !slices.Equal(drunk, c.drunk) || e != api.OK {
			t.Error(i, c.errors, c.angles, turns, drunk, e)
		}
	}
}

// TestSplitErrors is for P6.7's errors and their order.
func TestSplitErrors(t *testing.T) {
	for _, angles := range outside(1, 24) {
		for _, errors := range [][]int{nil, {0, 0}, {0, 10001}, make([]int, 5000)} {
			if got := splitAnswer(lead.Split(errors, angles)); got != failed(api.ErrRange) {
				t.Error(errors, angles, got)
			}
		}
	}
	for _, c := range []struct{ errors, angles int }{
		{0, 1}, {1, 1}, {201, 1}, {5000, 1}, {0, 2}, {1, 2}, {2, 2}, {4, 2}, {6, 2}, {401, 2}, {0, 24}, {1, 24}, {24, 24}, {26, 24}, {48, 24}, {199*24 + 2, 24}, {200*24 + 1, 24}, {199 * 24, 24},
	} {
		for _, n := range []int{0, 10001} {
			if got := splitAnswer(lead.Split(slices.Repeat([]int{n}, c.errors), c.angles)); got != failed(api.ErrForm) {
				t.Error(c, got)
			}
		}
	}
	for _, n := range outside(-10000, 10000) {
		for _, errors := range [][]int{{n, 0, 0, 0, 0}, {0, n, 0, 0, 0}, {0, 0, 0, 0, n}, {0, 5, 5, n, 10}} {
			if got := splitAnswer(lead.Split(errors, 2)); got != failed(api.ErrRange) {
				t.Error(errors, got)
			}
		}
	}
	for _, c := range []struct {
		errors []int
		angles int
	}{
		// Not integers, in the first turn or in another one.
		{[]int{0, 5, 5, 2, 10}, 2}, {[]int{0, 5, 5}, 2}, {[]int{0, 0, -1}, 2}, {[]int{0, 4, 4, 8, 5}, 2}, {[]int{0, 0, 0, 0, 0, 0, 1}, 3},
		// Not the same ones in each turn.
		{[]int{0, 6, 4, 9, 4}, 2}, {[]int{0, 6, 4, 7, 4}, 2}, {[]int{0, 0, 0, 0, 0, 1, 0}, 3},
		// Beyond the limit.
		{[]int{-10000, 1, -10000}, 2}, {[]int{10000, -1, 10000}, 2}, {[]int{-10000, 10000, -10000}, 2}, {[]int{10000, -10000, 10000, -10000, 10000}, 2},
	} {
		if got := splitAnswer(lead.Split(c.errors, c.angles)); got != failed(api.ErrState) {
			t.Error(c, got)
		}
	}
}

// anyParts returns errors of turns and of angles that make integers at all steps, within all limits.
func anyParts(r *rand.Rand) (turns, drunk []int) {
	angles := 1 + r.IntN(api.MaxLeadAngles)
	turn := within(r, span(-500, 500))
	for range 2 + r.IntN(20) {
		turns = append(turns, turn)
		turn += angles * within(r, span(-9, 9))
	}
	drunk = []int{0}
	for range angles - 1 {
		drunk = append(drunk, within(r, span(-3000, 3000)))
	}
	return turns, drunk
}

// stepsOf returns the errors at all steps of a screw of which all is known, rounded down.
func stepsOf(turns, drunk []int) []int {
	var l []int
	j := example(exactTurns(turns...), func(j *job) { j.screw.Drunk = drunk })
	for step := range last(j) + 1 {
		l = append(l, floor(errorIn(j, truth{turns: turns}, step, false), len(drunk)))
	}
	return l
}

// TestParted is for P6.13 and P6.7: errors that are known are parted into those of which they were made, and changed ones are not.
func TestParted(t *testing.T) {
	r := dice()
	changed := map[api.Errno]int{}
	for range 500 {
		turns, drunk := anyParts(r)
		errors := stepsOf(turns, drunk)
		a, b, e := lead.Split(errors, len(drunk))
		if !slices.Equal(a, turns) || !slices.Equal(b, drunk) || e != api.OK {
			t.Fatal(turns, drunk, a, b, e)
		}
		errors[r.IntN(len(errors))] += within(r, span(-3, 3))
		a, b, e = lead.Split(errors, len(drunk))
		changed[e]++
		if e == api.OK && (!slices.Equal(stepsOf(a, b), errors) || b[0] != 0) || e != api.OK && (a != nil || b != nil || e != api.ErrState) {
			t.Fatal(errors, a, b, e)
		}
	}
	if changed[api.OK] < 50 || changed[api.ErrState] < 50 {
		t.Error("all changes have the same result", changed)
	}
}

// canSplit searches for errors at angles among small ones.
func canSplit(errors []int, angles int) ([]int, bool) {
	var turns, drunk []int
	for step := 0; step < len(errors); step += angles {
		turns = append(turns, errors[step])
	}
	j := example(exactTurns(turns...), long(len(turns), angles), func(j *job) { j.notches = nil })
	for angle := range angles {
		found := false
		for n := -20; n <= 20 && !found; n++ {
			j.screw.Drunk[angle] = n
			found = true
			for step := angle; step < len(errors); step += angles {
				found = found && errorIn(j, truth{turns: turns}, step, false) == angles*errors[step]
			}
			if found {
				drunk = append(drunk, n)
			}
		}
		if !found {
			return nil, false
		}
	}
	return drunk, true
}

// TestSplitSearch is for P6.7: all errors at angles that could be.
func TestSplitSearch(t *testing.T) {
	r := dice()
	found := map[bool]int{}
	for range 3000 {
		angles := 1 + r.IntN(3)
		var errors []int
		for range (1+r.IntN(2))*angles + 1 {
			errors = append(errors, within(r, span(-4, 4)))
		}
		want, ok := canSplit(errors, angles)
		_, drunk, e := lead.Split(errors, angles)
		if ok != (e == api.OK) || !ok && e != api.ErrState || !slices.Equal(drunk, want) {
			t.Fatal(errors, angles, drunk, e, want)
		}
		found[ok]++
	}
	if found[true] < 300 || found[false] < 300 {
		t.Error("all have the same result", found)
	}
}
