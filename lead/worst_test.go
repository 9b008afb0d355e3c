package lead_test

import (
	"testing"

	"acme/api"
	"acme/fit"
	"acme/lead"
)

func worst(low, lowFrom, lowTo, high, highFrom, highTo int) api.LeadWorst {
	return api.LeadWorst{Low: low, LowAt: [2]int{lowFrom, lowTo}, High: high, HighAt: [2]int{highFrom, highTo}}
}

// TestWorstExample is for P6.4: the chapter's example 3, and further ones.
func TestWorstExample(t *testing.T) {
	for i, c := range []struct {
		j        job
		from, to int
		want     api.LeadWorst
	}{
		{example(), 0, 4, worst(-1, 1, 3, 12, 0, 4)}, {example(), 0, 0, worst(0, 0, 0, 0, 0, 0)}, {example(), 8, 8, worst(0, 8, 8, 0, 8, 8)}, {example(), 1, 3, worst(-1, 1, 3, 0, 1, 1)},
		{example(), 1, 2, worst(-1, 1, 2, 0, 1, 1)}, {example(), 0, 8, worst(-16, 4, 8, 12, 0, 4)}, {example(), 4, 8, worst(-16, 4, 8, 1, 4, 5)},
		{example(notched(8, 20)), 0, 8, worst(-15, 4, 7, 21, 7, 8)}, {example(notched(1, -5)), 0, 2, worst(-1, 1, 2, 1, 0, 1)},
		// Of equals the first: also among those that are equal when rounded, but not before.
		{example(exactTurns(0, 3, 0, 3, 0), drunk(0)), 0, 4, worst(-3, 1, 2, 3, 0, 1)}, {example(exactTurns(0, 3, 0, 3, 0), drunk(0)), 1, 4, worst(-3, 1, 2, 3, 2, 3)},
		{example(exactTurns(0, 3), drunk(0, 0, 0, 0)), 0, 3, worst(0, 0, 0, 3, 0, 3)}, {example(exactTurns(0, -3), drunk(0, 0, 0, 0)), 0, 3, worst(-3, 0, 3, 0, 0, 0)}, {example(exactTurns(0, 1), drunk(0, 0, 0, 0)), 0, 4, worst(0, 0, 0, 1, 0, 4)},
		{example(turns(span(-10000, 10000), span(-10000, 10000)), drunk(0)), 0, 1, worst(-20000, 0, 1, 20000, 0, 1)},
	} {
		if got, e := lead.Worst(c.j.screw, c.j.notches, c.from, c.to); got != c.want || e != api.OK {
			t.Error(i, c.j, c.from, c.to, got, e)
		}
	}
}

// TestWorstOfScrew is for P6.4: example 7 of the document, of a screw that was cut with a lead screw.
func TestWorstOfScrew(t *testing.T) {
	j := example(exactTurns(0, 10, -4), drunk(0))
	got, e := lead.Worst(j.screw, j.notches, 0, 2)
	if got != worst(-14, 1, 2, 10, 0, 1) || e != api.OK {
		t.Error(got, e)
	}
	form := api.ThreadForm{Pitch: 10000, Left: 577, Right: 577, Above: 3000, Below: 3000, Starts: 1}
	screw := api.FitThread{Left: 577, Right: 577}
	for turn, off := range []int{0, 10, -4} {
		screw.Turns = append(screw.Turns, api.FitTurn{Left: 10000*turn + off - 2500, Right: 10000*turn + off + 2500})
	}
	if size, e := fit.Screw(form, screw, span(-3000, 3000)); size != 13 || e != api.OK {
		t.Error(size, e)
	}
}

// TestWorstRange is for P6.4's errors, and for the longest distance.
func TestWorstRange(t *testing.T) {
	j := example()
	for _, n := range outside(0, 8) {
		for _, ends := range [][2]int{{n, 4}, {4, n}, {n, n}, {n, 8}, {0, n}} {
			if got := valueAnswer(lead.Worst(j.screw, nil, ends[0], ends[1])); got != failed(api.ErrRange) {
				t.Error(ends, got)
			}
		}
	}
	for from := range 9 {
		for to := range from {
			if got := valueAnswer(lead.Worst(j.screw, nil, from, to)); got != failed(api.ErrRange) {
				t.Error(from, to, got)
			}
		}
	}
	j = example(long(200, 24), func(j *job) { j.screw.Drunk[23], j.screw.Drunk[1] = 7, -5 })
	for _, from := range []int{0, 1, 4000, 4476} {
		if got, e := lead.Worst(j.screw, nil, from, from+300); got.Low != -12 || got.High != 12 || e != api.OK {
			t.Error(from, got, e)
		}
	}
	for _, ends := range [][2]int{{0, 301}, {1, 302}, {4475, 4776}, {0, 4776}, {4477, 4777}} {
		if got := valueAnswer(lead.Worst(j.screw, nil, ends[0], ends[1])); got != failed(api.ErrRange) {
			t.Error(ends, got)
		}
	}
	far := example(long(200, 24), func(j *job) { j.notches = notches(400, 50, 401, 0, 700, -50) })
	if got, e := lead.Worst(far.screw, far.notches, 400, 700); got != worst(-100, 400, 700, 0, 400, 400) || e != api.OK {
		t.Error(got, e)
	}
}

// worstIn searches for the worst distances through all truths of a screw: not rounded, but times the number of angles.
func worstIn(j job, from, to int) api.LeadWorst {
	w := worst(0, from, from, 0, from, from)
	for a := from; a <= to; a++ {
		for b := a; b <= to; b++ {
			for truth := range allTruths(j.screw) {
				n := errorIn(j, truth, b, false) - errorIn(j, truth, a, false)
				if n < w.Low {
					w.Low, w.LowAt = n, [2]int{a, b}
				}
				if n > w.High {
					w.High, w.HighAt = n, [2]int{a, b}
				}
			}
		}
	}
	return w
}

// TestWorstSearch is for P6.4: all truths of small screws.
func TestWorstSearch(t *testing.T) {
	r := dice()
	for range 200 {
		j := anyJob(r)
		from := r.IntN(last(j) + 1)
		to := within(r, span(from, last(j)))
		want := worstIn(j, from, to)
		rounded := outward(j, span(want.Low, want.High))
		want.Low, want.High = rounded.Low, rounded.High
		if got, e := lead.Worst(j.screw, j.notches, from, to); got != want || e != api.OK {
			t.Fatal(j, from, to, got, e, want)
		}
	}
}
