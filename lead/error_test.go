package lead_test

import (
	"testing"

	"acme/api"
	"acme/lead"
)

// TestErrorExample is for P6.2: the chapter's example 1, and turns and angles that are rounded below 0.
func TestErrorExample(t *testing.T) {
	below := example(exactTurns(0, -1), drunk(0, 0, 0, -10000))
	for i, c := range []struct {
		j    job
		at   int
		want api.Span
	}{
		{example(), 0, span(0, 0)}, {example(), 1, span(5, 6)}, {example(), 2, span(5, 6)}, {example(), 3, span(4, 6)}, {example(), 4, span(10, 12)},
		{example(), 5, span(9, 12)}, {example(), 6, span(3, 6)}, {example(), 7, span(-4, 0)}, {example(), 8, span(-4, 0)},
		{example(notched(4, -5)), 3, span(4, 6)}, {example(notched(4, -5)), 4, span(5, 7)}, {example(notched(4, -5)), 8, span(-9, -5)},
		{example(notched(0, 7)), 0, span(7, 7)}, {example(notched(0, 7, 1, 9, 8, -2)), 1, span(14, 15)}, {example(notched(0, 7, 1, 9, 8, -2)), 7, span(5, 9)}, {example(notched(0, 7, 1, 9, 8, -2)), 8, span(-6, -2)},
		{below, 0, just(0)}, {below, 1, span(-1, 0)}, {below, 2, span(-1, 0)}, {below, 3, span(-10001, -10000)}, {below, 4, just(-1)},
		{example(exactTurns(1, 2, 3), drunk(0)), 2, just(3)}, {example(turns(span(-10000, 10000), span(-10000, 10000)), drunk(0, 10000), notched(1, 20000)), 1, span(20000, 40000)},
		{example(long(200, 24), manyNotches(200)), 4776, just(1 + 199%7)},
	} {
		if got, e := lead.Error(c.j.screw, c.j.notches, c.at); got != c.want || e != api.OK {
			t.Error(i, c.j, c.at, got, e)
		}
	}
}

// TestErrorRange is for P6.2's error.
func TestErrorRange(t *testing.T) {
	for _, j := range goodJobs() {
		for _, at := range outside(0, last(j)) {
			if got := valueAnswer(lead.Error(j.screw, j.notches, at)); got != failed(api.ErrRange) {
				t.Error(j, at, got)
			}
		}
		if _, e := lead.Error(j.screw, j.notches, last(j)); e != api.OK {
			t.Error(j, e)
		}
	}
}

// TestErrorSearch is for P6.2: all truths of small screws.
func TestErrorSearch(t *testing.T) {
	r := dice()
	for range 300 {
		j := anyJob(r)
		for at := range last(j) + 1 {
			var all api.Span
			first := true
			for truth := range allTruths(j.screw) {
				all = grown(all, first, errorIn(j, truth, at, false))
				first = false
			}
			if got, e := lead.Error(j.screw, j.notches, at); got != outward(j, all) || e != api.OK {
				t.Fatal(j, at, got, e, all)
			}
		}
	}
}
