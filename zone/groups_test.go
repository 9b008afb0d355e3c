package zone_test

import (
	"testing"

	"acme/api"
	"acme/zone"
)

// TestGroups is for P2.9.
func TestGroups(t *testing.T) {
	for i, c := range []struct {
		screw, nut, want api.Span
		groups           int
	}{
		{span(1000, 1009), span(1020, 1029), span(12, 28), 2}, {span(1000, 1009), span(1020, 1029), span(11, 29), 1}, {span(1000, 1009), span(1020, 1029), span(11, 28), 2}, {span(1000, 1009), span(1020, 1029), span(12, 29), 2}, {span(1000, 1009), span(1020, 1029), span(16, 24), 2},
		// Three groups have 3, 3 and 4 diameters, four have 2, 3, 2 and 3.
		{span(1000, 1009), span(1020, 1029), span(17, 23), 3}, {span(1000, 1009), span(1020, 1029), span(17, 24), 3}, {span(1000, 1009), span(1020, 1029), span(18, 22), 4}, {span(1000, 1009), span(1020, 1029), span(19, 21), 5}, {span(1000, 1009), span(1020, 1029), span(20, 20), 10},
		// Zones that are not as wide as each other.
		{span(0, 1), span(10, 19), span(9, 19), 1}, {span(0, 1), span(10, 19), span(10, 18), 2}, {span(10, 19), span(0, 1), span(-19, -9), 1}, {span(10, 19), span(0, 1), span(-18, -10), 2},
		// One diameter each.
		{span(5, 5), span(5, 5), span(0, 0), 1}, {span(5, 5), span(9, 9), span(4, 4), 1}, {span(9, 9), span(5, 5), span(-4, -4), 1},
		// As many groups as there may be.
		{span(0, 49), span(0, 49), span(0, 0), 50}, {span(0, 49), span(0, 49), span(-1, 1), 25}, {span(0, 99), span(0, 99), span(-1, 1), 50}, {span(0, 20000000), span(0, 20000000), span(-400000, 400000), 50}, {span(0, 20000000), span(0, 20000000), span(-20000000, 20000000), 1}, {span(0, 0), span(20000000, 20000000), span(20000000, 40000000), 1}, {span(20000000, 20000000), span(0, 0), span(-40000000, -20000000), 1}, {span(0, 20000000), span(0, 20000000), span(-40000000, 40000000), 1},
	} {
		if got, e := zone.Groups(c.screw, c.nut, c.want); got != c.groups || e != api.OK {
			t.Error(i, got, e)
		}
	}
}

// TestGroupsNone is for P2.9: no number of groups will do.
func TestGroupsNone(t *testing.T) {
	for i, c := range []struct{ screw, nut, want api.Span }{
		{span(0, 50), span(0, 50), span(0, 0)}, {span(0, 100), span(0, 100), span(-1, 1)}, {span(0, 20000000), span(0, 20000000), span(-399999, 400000)}, {span(0, 20000000), span(0, 20000000), span(-400000, 399999)},
		// More groups would do, but one of them would be empty.
		{span(0, 1), span(10, 19), span(10, 17)}, {span(5, 5), span(0, 1), span(0, 0)}, {span(0, 1), span(5, 5), span(0, 4)}, {span(1000, 1009), span(1020, 1029), span(21, 30)}, {span(5, 5), span(5, 5), span(1, 1)},
	} {
		if got, e := zone.Groups(c.screw, c.nut, c.want); got != 0 || e != api.ErrNone {
			t.Error(i, got, e)
		}
	}
}

// TestGroupsErrors is for P2.9: arguments that are not valid come before groups that there are not.
func TestGroupsErrors(t *testing.T) {
	good, wide := span(0, 20000000), span(-40000000, 40000000)
	check := func(screw, nut, want api.Span) {
		t.Helper()
		if got, e := zone.Groups(screw, nut, want); got != 0 || e != api.ErrArg {
			t.Error(screw, nut, want, got, e)
		}
	}
	for _, s := range badSpans(0, 20000000) {
		for _, want := range []api.Span{wide, span(0, 0)} {
			check(s, good, want)
			check(good, s, want)
			check(s, s, want)
		}
	}
	for _, want := range badSpans(-40000000, 40000000) {
		check(good, good, want)
		check(span(0, 0), span(1, 1), want)
	}
}

// sorted returns the diameters of a span that are in each of n groups, or nil if a group is empty.
func sorted(s api.Span, n int) [][]int {
	count := s.High - s.Low + 1
	if count < n {
		return nil
	}
	groups := make([][]int, n)
	for d := s.Low; d <= s.High; d++ {
		for i := range n {
			// Both ends of a group are rounded down, and are not below 0.
			if d >= s.Low+i*count/n && d < s.Low+(i+1)*count/n {
				groups[i] = append(groups[i], d)
			}
		}
	}
	return groups
}

// allWanted reports whether all plays of pieces of the same number are wanted.
func allWanted(screws, nuts [][]int, want api.Span) bool {
	for i := range screws {
		for _, screw := range screws[i] {
			for _, nut := range nuts[i] {
				if play := nut - screw; play < want.Low || play > want.High {
					return false
				}
			}
		}
	}
	return true
}

// TestSorted is for P2.9 and P2.13: each diameter is in one group, with the groups that Groups returns all plays are wanted, and with fewer groups they are not.
func TestSorted(t *testing.T) {
	for screws := range 9 {
		for nuts := range 9 {
			for low := -3; low <= 4; low++ {
				for high := low; high <= low+9; high++ {
					checkSorted(t, span(20, 20+screws), span(21, 21+nuts), span(low, high))
				}
			}
		}
	}
	for wide := 45; wide <= 60; wide++ {
		for play := range 5 {
			checkSorted(t, span(1000, 1000+wide), span(1002, 1002+wide), span(1-play, 2+play))
		}
	}
}

func checkSorted(t *testing.T, screw, nut, want api.Span) {
	t.Helper()
	least, none := 0, api.ErrNone
	for n := 1; n <= api.MaxZoneGroups && least == 0; n++ {
		screws, nuts := sorted(screw, n), sorted(nut, n)
		if screws == nil || nuts == nil {
			break
		}
		if !whole(screws, screw) || !whole(nuts, nut) {
			t.Error("a diameter is not in just one group", screw, nut, n)
		}
		if allWanted(screws, nuts, want) {
			least, none = n, api.OK
		}
	}
	if got, e := zone.Groups(screw, nut, want); got != least || e != none {
		t.Error(screw, nut, want, got, e, least)
	}
}

// whole reports whether groups have each diameter of a span once, and none is empty.
func whole(groups [][]int, s api.Span) bool {
	next := s.Low
	for _, group := range groups {
		if len(group) == 0 {
			return false
		}
		for _, d := range group {
			if d != next {
				return false
			}
			next++
		}
	}
	return next == s.High+1
}
