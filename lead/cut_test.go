package lead_test

import (
	"math"
	"math/bits"
	"slices"
	"testing"

	"acme/api"
	"acme/lead"
)

// saw returns a screw all of whose errors are known: one at the start and the end of each turn, another one between.
func saw(turns, whole, half int) job {
	return example(exactTurns(slices.Repeat([]int{whole}, turns)...), drunk(0, half-whole))
}

// TestCutExample is for P6.5: the chapter's example 4, and further ones.
func TestCutExample(t *testing.T) {
	full := turns(span(-10000, 10000), just(0))
	for i, c := range []struct {
		j     job
		limit int
		want  []api.LeadNotch
	}{
		{example(), 6, notches(4, -6, 7, 0)}, {example(), 12, nil}, {example(), 11, notches(4, -1)}, {example(), 5, notches(1, -7, 7, 0)}, {example(), 40000, nil},
		{example(exactTurns(5, 5)), 0, notches(0, -5, 1, -8, 2, -5, 3, -2, 4, -5)}, {example(exactTurns(5, 5), drunk(0)), 5, nil}, {example(exactTurns(5, 5), drunk(0)), 4, notches(0, -1)},
		{example(exactTurns(-9, 0, 9), drunk(0)), 2, notches(0, 7, 1, 0, 2, -7)}, {example(exactTurns(0, 9, 2, 9), drunk(0)), 6, notches(1, -3)},
		// The notches come as late as they can: the first one, and then the second one.
		{example(exactTurns(0, 0, 0, 5, 0, 0, 0, 0), drunk(0)), 1, notches(3, -4, 4, 0)}, {example(exactTurns(0, 4, 6, 8, 10), drunk(0)), 2, notches(1, -6, 4, -8)},
		{example(full, drunk(0)), 10000, nil}, {example(turns(span(9000, 10000), just(10000)), drunk(0, 10000)), 500, notches(0, -9500, 1, -19500, 2, -9500)},
		{example(exactTurns(10000, 10000), drunk(0, 10000)), 0, notches(0, -10000, 1, -20000, 2, -10000)}, {example(exactTurns(-10000, -10000), drunk(0, -10000)), 0, notches(0, 10000, 1, 20000, 2, 10000)},
	} {
		if got, e := lead.Cut(c.j.screw, c.limit); !slices.Equal(got, c.want) || e != api.OK {
			t.Error(i, c.j, c.limit, got, e)
		}
	}
}

// TestCutErrors is for P6.5's errors, and for as many notches as there may be.
func TestCutErrors(t *testing.T) {
	for _, limit := range outside(0, 40000) {
		for _, j := range goodJobs() {
			if got := listAnswer(lead.Cut(j.screw, limit)); got != failed(api.ErrRange) {
				t.Error(j, limit, got)
			}
		}
	}
	for i, c := range []struct {
		j     job
		limit int
	}{
		{example(), 0}, {example(), 1}, {example(turns(span(-10000, 10000), just(0))), 9999}, {example(turns(just(0), span(0, 3)), drunk(0)), 1},
		// Half a unit is not an integer, so no notch makes it 0.
		{example(exactTurns(0, 1), drunk(0, 0)), 0}, {saw(101, 5, 8), 0}, {saw(101, 5, 8), 1},
	} {
		if got := listAnswer(lead.Cut(c.j.screw, c.limit)); got != failed(api.ErrNone) {
			t.Error(i, got)
		}
	}
	got, e := lead.Cut(saw(101, 0, 3).screw, 0)
	if len(got) != 200 || got[0] != (api.LeadNotch{From: 1, Add: -3}) || got[199] != (api.LeadNotch{From: 200}) || e != api.OK {
		t.Error(got, e)
	}
	if got, e := lead.Cut(saw(101, 5, 8).screw, 2); !slices.Equal(got, notches(0, -6)) || e != api.OK {
		t.Error(got, e)
	}
	if got, e := lead.Cut(example(exactTurns(0, 1), drunk(0, 0)).screw, 1); len(got) != 0 || e != api.OK {
		t.Error(got, e)
	}
}

// allErrors returns the errors at all steps over all truths, without notches, times the number of angles.
func allErrors(j job) []api.Span {
	j.notches = nil
	l := make([]api.Span, last(j)+1)
	first := true
	for truth := range allTruths(j.screw) {
		for step := range l {
			l[step] = grown(l[step], first, errorIn(j, truth, step, false))
		}
		first = false
	}
	return l
}

// isRight reports whether an Add is right for some errors.
func isRight(errors []api.Span, angles, limit, add int) bool {
	return !slices.ContainsFunc(errors, func(s api.Span) bool {
		return s.Low+angles*add < -angles*limit || s.High+angles*add > angles*limit
	})
}

// nearest searches for the Add nearest to 0 that is right for some errors.
func nearest(errors []api.Span, angles, limit int) (int, bool) {
	for far := range 80 {
		for _, add := range []int{far, -far} {
			if isRight(errors, angles, limit, add) {
				return add, true
			}
		}
	}
	return 0, false
}

// notchesAt returns the notches from steps on that are set in a mask, if there are such.
func notchesAt(errors []api.Span, angles, limit, mask int) ([]api.LeadNotch, bool) {
	var l []api.LeadNotch
	from := 0
	for step := 0; step <= len(errors); step++ {
		if step < len(errors) && mask>>step&1 == 0 {
			continue
		}
		part := errors[from:step]
		if len(l) == 0 {
			if !isRight(part, angles, limit, 0) {
				return nil, false
			}
		} else {
			add, ok := nearest(part, angles, limit)
			if !ok {
				return nil, false
			}
			l[len(l)-1].Add = add
		}
		l, from = append(l, api.LeadNotch{From: step}), step
	}
	return l[:len(l)-1], true
}

// cutIn searches through all sets of steps from which notches can be.
func cutIn(j job, limit int) ([]api.LeadNotch, bool) {
	errors := allErrors(j)
	var best []api.LeadNotch
	found := false
	later := func(a, b api.LeadNotch) int { return a.From - b.From }
	for mask := range 1 << len(errors) {
		if found && bits.OnesCount(uint(mask)) > len(best) {
			continue
		}
		l, ok := notchesAt(errors, len(j.screw.Drunk), limit, mask)
		if ok && (!found || len(l) < len(best) || slices.CompareFunc(l, best, later) > 0) {
			best, found = l, true
		}
	}
	return best, found
}

// shortJob returns a small screw of few steps.
func shortJob(more func() job) job {
	for {
		if j := more(); last(j) <= 9 {
			return j
		}
	}
}

// TestCutSearch is for P6.5 and P6.11: all sets of steps, and all truths of small screws.
func TestCutSearch(t *testing.T) {
	r := dice()
	counts := map[int]int{}
	for range 400 {
		j := shortJob(func() job { return anyJob(r) })
		limit := r.IntN(9)
		want, ok := cutIn(j, limit)
		got, e := lead.Cut(j.screw, limit)
		if !slices.Equal(got, want) || ok != (e == api.OK) || !ok && e != api.ErrNone {
			t.Fatal(j, limit, got, e, want)
		}
		if ok {
			counts[len(want)]++
		} else {
			counts[-1]++
		}
	}
	for count := -1; count < 5; count++ {
		if counts[count] < 10 {
			t.Error("few screws need so many notches", counts)
		}
	}
}

// TestLeastExample is for P6.6: the chapter's example 4, and both limits of many.
func TestLeastExample(t *testing.T) {
	for i, c := range []struct {
		j          job
		many, want int
	}{
		{example(), 2, 5}, {example(), 0, 12}, {example(), 1, 8}, {example(), 200, 2}, {example(exactTurns(0, 0), drunk(0)), 0, 0}, {example(exactTurns(0, 0), drunk(0)), 200, 0},
		{saw(101, 0, 3), 200, 0}, {saw(101, 0, 3), 199, 2}, {saw(101, 0, 3), 0, 3}, {saw(101, 0, 3), 1, 2}, {saw(101, 5, 8), 200, 2}, {saw(101, -10000, -20000), 0, 20000}, {saw(2, 10000, 20000), 0, 20000}, {example(exactTurns(0, 1), drunk(0, 0)), 200, 1},
		{example(turns(span(-10000, 10000), just(0)), drunk(0)), 200, 10000},
	} {
		if got, e := lead.Least(c.j.screw, c.many); got != c.want || e != api.OK {
			t.Error(i, c.j, c.many, got, e)
		}
	}
	for _, many := range append(outside(0, 200), math.MinInt) {
		for _, j := range goodJobs() {
			if got := valueAnswer(lead.Least(j.screw, many)); got != failed(api.ErrRange) {
				t.Error(j, many, got)
			}
		}
	}
}

// TestLeastSearch is for P6.6: limit by limit.
func TestLeastSearch(t *testing.T) {
	r := dice()
	for range 60 {
		j := shortJob(func() job { return anyJob(r) })
		many := r.IntN(4)
		want := 0
		for {
			if l, ok := cutIn(j, want); ok && len(l) <= many {
				break
			}
			want++
		}
		if got, e := lead.Least(j.screw, many); got != want || e != api.OK {
			t.Fatal(j, many, got, e, want)
		}
	}
}
