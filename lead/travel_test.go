package lead_test

import (
	"slices"
	"testing"

	"acme/api"
	"acme/lead"
)

// TestTravelExample is for P6.3: the chapter's example 2, and further ways.
func TestTravelExample(t *testing.T) {
	for i, c := range []struct {
		j    job
		way  []int
		want []api.Span
	}{
		{example(), []int{0, 4, 8, 4}, []api.Span{span(10, 12), span(-16, -10), span(15, 24)}}, {example(), []int{4, 4}, []api.Span{just(0)}},
		{example(), nil, nil}, {example(), []int{8}, nil}, {example(), []int{8, 4}, []api.Span{span(15, 24)}},
		// What was reached from above is so still if the nut stays, and not if it goes on upward.
		{example(), []int{8, 4, 4, 0, 0, 4}, []api.Span{span(15, 24), just(0), span(-12, -10), just(0), span(2, 7)}},
		{example(), []int{8, 0, 8, 8, 0}, []api.Span{span(5, 12), span(-12, -5), just(0), span(5, 12)}},
		// Both ends are within a turn that they share: with T(1) = 10 the errors are 5.5 and 4.5, with 12 both are 6.
		{example(), []int{1, 3}, []api.Span{span(-1, 0)}}, {example(), []int{1, 2, 3}, []api.Span{span(-1, 0), span(-1, 0)}}, {example(), []int{3, 5}, []api.Span{span(5, 6)}},
		{example(notched(4, -5)), []int{3, 4, 3, 8}, []api.Span{span(0, 1), span(4, 8), span(-23, -14)}}, {example(notched(0, 9)), []int{0, 4, 8, 4}, []api.Span{span(10, 12), span(-16, -10), span(15, 24)}},
	} {
		if got, e := lead.Travel(c.j.screw, c.j.notches, c.way); !slices.Equal(got, c.want) || e != api.OK {
			t.Error(i, c.j, c.way, got, e)
		}
	}
}

// TestTravelErrors is for P6.3's errors and their order.
func TestTravelErrors(t *testing.T) {
	j := example()
	for _, n := range outside(0, 8) {
		for _, way := range [][]int{{n}, {0, n}, {n, 0}, {0, 1, n, 2}, append(make([]int, 299), n)} {
			if got := listAnswer(lead.Travel(j.screw, nil, way)); got != failed(api.ErrRange) {
				t.Error(way, got)
			}
		}
		for _, way := range [][]int{append(make([]int, 300), n), append([]int{n}, make([]int, 300)...)} {
			if got := listAnswer(lead.Travel(j.screw, nil, way)); got != failed(api.ErrLong) {
				t.Error(way, got)
			}
		}
	}
	for _, length := range []int{301, 302, 5000} {
		if got := listAnswer(lead.Travel(j.screw, nil, make([]int, length))); got != failed(api.ErrLong) {
			t.Error(length, got)
		}
	}
	if got, e := lead.Travel(j.screw, nil, make([]int, 300)); !slices.Equal(got, make([]api.Span, 299)) || e != api.OK {
		t.Error(got, e)
	}
}

// TestTravelSearch is for P6.3: all truths of small screws.
func TestTravelSearch(t *testing.T) {
	r := dice()
	for i := range 600 {
		j := anyJob(r)
		way := anyWay(r, last(j), i%9)
		all := make([]api.Span, max(len(way)-1, 0))
		first := true
		for truth := range allTruths(j.screw) {
			for leg, n := range distancesIn(j, truth, way) {
				all[leg] = grown(all[leg], first, n)
			}
			first = false
		}
		for leg := range all {
			all[leg] = outward(j, all[leg])
		}
		if got, e := lead.Travel(j.screw, j.notches, way); !slices.Equal(got, all) || e != api.OK {
			t.Fatal(j, way, got, e, all)
		}
	}
}
