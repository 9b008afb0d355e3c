package wires_test

import (
	"slices"
	"testing"

	"acme/api"
	"acme/wires"
)

// equalLists reports whether lists of lists are equal: nil and empty ones are (R3).
func equalLists(a, b [][]int) bool {
	return slices.EqualFunc(a, b, func(x, y []int) bool { return slices.Equal(x, y) })
}

// TestWrong is for P5.5.
func TestWrong(t *testing.T) {
	four := sixReadings()
	for i, c := range []struct {
		j    job
		want [][]int
	}{
		{example(), [][]int{nil}},
		{example(shows(0, 102845)), [][]int{nil}},
		{example(shows(0, 102845, 1, 102250)), [][]int{{0}, {1}}},
		// Sizes 93499 to 93503 and others that are 10 greater, or 20: those that most agree with stay.
		{four, [][]int{nil}},
		{example(sameSets(10), shows(0, 102240, 3, 102250, 5, 102240)), [][]int{{1}}},
		{example(sameSets(10), shows(0, 102250, 3, 102240, 5, 102240)), [][]int{{0}}},
		{example(sameSets(10), shows(0, 102240, 3, 102240, 5, 102250, 7, 102250)), [][]int{{0, 1}, {2, 3}}},
		{example(sameSets(10), shows(0, 102240, 3, 102250, 5, 102240, 7, 102250)), [][]int{{0, 2}, {1, 3}}},
		{example(sameSets(10), shows(0, 102240, 3, 102250, 5, 102260)), [][]int{{0, 1}, {0, 2}, {1, 2}}},
		// Neighbours agree, but not those that are farther apart.
		{example(sameSets(10), shows(0, 102240, 3, 102244, 5, 102248)), [][]int{{0}, {2}}},
		{example(sameSets(10), shows(0, 0, 1, 10, 2, 20, 3, 30, 4, 40, 5, 50)), [][]int{{0, 1, 2, 3, 4}, {0, 1, 2, 3, 5}, {0, 1, 2, 4, 5}, {0, 1, 3, 4, 5}, {0, 2, 3, 4, 5}, {1, 2, 3, 4, 5}}},
		{example(sameSets(10), shows(0, 0, 1, 10, 2, 20, 3, 10, 4, 40, 5, 50)), [][]int{{0, 2, 4, 5}}},
	} {
		if got, e := wires.Wrong(c.j.rules, c.j.sets, c.j.readings); !equalLists(got, c.want) || e != api.OK {
			t.Error(i, got, e)
		}
	}
}

// wrongOf returns what Wrong should return, found by a search through all sets of numbers.
func wrongOf(j job) [][]int {
	sights := search(j)
	var found [][]int
	for mask := range 1<<len(j.readings) - 1 {
		var out []int
		for number := range j.readings {
			if mask>>number&1 == 1 {
				out = append(out, number)
			}
		}
		if len(found) > 0 && len(out) > len(found[0]) || len(sizesOf(sights, out...)) == 0 {
			continue
		}
		if len(found) > 0 && len(out) < len(found[0]) {
			found = nil
		}
		found = append(found, out)
	}
	slices.SortFunc(found, slices.Compare)
	return found
}

// TestWrongSearch is for P5.5: the same sets of numbers as a search has.
func TestWrongSearch(t *testing.T) {
	found := map[int]int{}
	for _, j := range jobs(1000) {
		want := wrongOf(j)
		if got, e := wires.Wrong(j.rules, j.sets, j.readings); !equalLists(got, want) || e != api.OK {
			t.Error(j, got, want, e)
		}
		found[len(want[0])]++
	}
	for count := range 3 {
		if found[count] < 10 {
			t.Error("the search has not all answers", found)
		}
	}
}
