package die_test

import (
	"testing"

	"acme/api"
	"acme/die"
)

// pairsOutside returns pairs of numbers that are not both from 0 to a number in ascending order, or are the same if they may not be.
func pairsOutside(last int, same bool) [][2]int {
	l := [][2]int{{1, 0}, {last, 0}, {last, last - 1}, {last + 1, last + 1}, {-1, -1}}
	for _, n := range outside(0, last) {
		l = append(l, [2]int{n, 0}, [2]int{n, last}, [2]int{0, n}, [2]int{last, n}, [2]int{n, n})
	}
	if !same {
		l = append(l, [2]int{0, 0}, [2]int{1, 1}, [2]int{last, last})
	}
	return l
}

// TestWearExample is for P7.2: the chapter's example 1, and further ones; a tap wears as a die does.
func TestWearExample(t *testing.T) {
	for i, c := range []struct {
		from, to int
		want     api.Span
	}{
		{0, 200, span(2000, 4000)}, {0, 0, just(0)}, {0, 1, span(10, 20)}, {199, 200, span(10, 20)}, {199, 201, span(60, 120)}, {200, 201, span(50, 100)}, {200, 200, just(0)},
		{200, 300, span(5000, 10000)}, {0, 300, span(7000, 14000)}, {150, 250, span(3000, 6000)}, {299, 300, span(50, 100)}, {300, 300, just(0)},
	} {
		for _, j := range []job{example(), tap()} {
			if got, e := die.Wear(j.tool, j.orders, c.from, c.to); got != c.want || e != api.OK {
				t.Error(i, j, got, e)
			}
		}
	}
	full := example(wears(just(0), span(99999, 100000)), orders(10000, 1, 0, 0), manyOrders(40))
	if got, e := die.Wear(full.tool, full.orders, 0, 400000); got != span(39999600000, 40000000000) || e != api.OK {
		t.Error(got, e)
	}
	three := example(wears(just(7), span(0, 1)), orders(2, 1, 0, 0, 3, 0, 0, 0, 4, 1, 0, 0))
	if got, e := die.Wear(three.tool, three.orders, 1, 7); got != span(21, 24) || e != api.OK {
		t.Error(got, e)
	}
}

// TestWearErrors is for P7.2's error.
func TestWearErrors(t *testing.T) {
	for _, pair := range pairsOutside(300, true) {
		for _, j := range []job{example(), tap()} {
			if got := valueAnswer(die.Wear(j.tool, j.orders, pair[0], pair[1])); got != failed(api.ErrRange) {
				t.Error(j, pair, got)
			}
		}
	}
}

// TestWearSearch is for P7.2: piece by piece.
func TestWearSearch(t *testing.T) {
	r := dice()
	for range 300 {
		j, _ := anyJob(r)
		for from := 0; from <= piecesOf(j); from++ {
			var want api.Span
			for to := from; to <= piecesOf(j); to++ {
				if got, e := die.Wear(j.tool, j.orders, from, to); got != want || e != api.OK {
					t.Fatal(j, from, to, got, e, want)
				}
				if to < piecesOf(j) {
					wear := j.tool.Wears[orderOf(j, to).Steel]
					want = span(want.Low+wear.Low, want.High+wear.High)
				}
			}
		}
	}
}
