package gauge_test

import (
	"slices"
	"testing"

	"acme/api"
	"acme/gauge"
)

// checkDoubt reports what Wrong and Doubt do not return as they should.
func checkDoubt(t *testing.T, r api.GaugeRules, l history, wrong int, doubt []int) {
	t.Helper()
	if at, e := gauge.Wrong(r, l); at != wrong || e != api.OK {
		t.Error("Wrong", r, l, at, e, wrong)
	}
	want := api.OK
	if wrong == -1 {
		want = api.ErrNone
	}
	if got, e := gauge.Doubt(r, l); !slices.Equal(got, doubt) || e != want {
		t.Error("Doubt", r, l, got, e, doubt)
	}
}

// TestDoubt is for P4.4 and P4.5: histories that are worked out by hand.
func TestDoubt(t *testing.T) {
	for _, c := range []struct {
		l     history
		wrong int
		doubt []int
	}{
		{nil, -1, nil}, {events(tried(100000)), -1, nil}, {events(tried(200), goes(0)), -1, nil}, {events(tried(200), stays(0)), -1, nil},
		{contradictory(), 3, []int{1, 3}},
		// One check alone contradicts the rules.
		{events(goes(0)), 0, []int{0}}, {events(tried(2000), stays(0)), 1, []int{1}}, {events(tried(300), goes(1)), 1, []int{1}}, {events(stays(0), tried(1), goes(1), tried(1)), 2, []int{2}}, {events(tried(400), goes(1), tried(1000), stays(0)), 3, []int{3}},
		// It goes into the smaller master, but not into the greater one.
		{events(tried(400), stays(0), goes(1)), 2, []int{1, 2}}, {events(tried(400), goes(1), stays(0)), 2, []int{1, 2}}, {events(tried(400), stays(1), stays(0), goes(1)), 3, []int{3}},
		// Further checks that agree with one side leave just the other one in doubt.
		{events(tried(200), goes(0), tried(100), stays(0), goes(0)), 3, []int{3}}, {events(tried(200), goes(0), goes(0), tried(100), stays(0)), 4, []int{4}}, {events(tried(200), goes(0), tried(100), stays(0), stays(0)), 3, []int{1}}, {events(tried(200), goes(0), tried(100), stays(0), stays(1)), 3, []int{1, 3}},
		// More than one check must be wrong.
		{events(goes(0), goes(1)), 0, nil}, {and(contradictory(), tried(2000), stays(1)), 3, nil}, {events(tried(200), goes(0), goes(0), stays(0), stays(0), tried(5)), 3, nil},
	} {
		checkDoubt(t, example(), c.l, c.wrong, c.doubt)
		checkDoubt(t, ring(), c.l, c.wrong, c.doubt)
	}
}

// TestDoubtFull is for P4.4 and P4.5: as many events as there may be.
func TestDoubtFull(t *testing.T) {
	full := and(slices.Repeat(events(tried(2)), 98), goes(0), stays(0))
	checkDoubt(t, example(), full, 99, []int{98, 99})
	checkDoubt(t, ring(), full, 99, []int{98, 99})
	checkDoubt(t, example(), full[:99], -1, nil)
	// Nothing but two checks by one master contradicts, and they are far from one another.
	r := example(masters(10, span(4000, 6000)))
	r.Wear = span(0, 0)
	var l history
	for i := range r.Masters {
		l = append(l, stays(i), tried(1), stays(i))
	}
	checkDoubt(t, r, l, -1, nil)
	checkDoubt(t, r, and(l, goes(9)), 30, []int{30})
	checkDoubt(t, r, and(l[1:], goes(0)), 29, []int{1, 29})
}

// TestDoubtSearch is for P4.4 and P4.5: truth by truth.
func TestDoubtSearch(t *testing.T) {
	r := dice()
	found := map[int]int{}
	for range 8000 {
		rules := anyRules(r)
		l := anyHistory(r, rules, r.IntN(9))
		wrong := -1
		for i := len(l); i > 0 && !search(rules, l[:i]).real; i-- {
			wrong = i - 1
		}
		var doubt []int
		for i, event := range l {
			if wrong >= 0 && event.Master != api.GaugeNone && search(rules, slices.Concat(l[:i], l[i+1:])).real {
				doubt = append(doubt, i)
			}
		}
		found[len(doubt)]++
		checkDoubt(t, rules, l, wrong, doubt)
	}
	if found[0] < 100 || found[1] < 100 || found[2] < 100 {
		t.Error("the search has not all answers", found)
	}
}
