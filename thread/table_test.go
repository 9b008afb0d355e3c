package thread_test

import (
	"math"
	"slices"
	"testing"

	"acme/api"
	"acme/thread"
)

// wide returns what agrees with all forms.
func wide() api.ThreadSeen {
	all := span(0, api.MaxLength)
	return api.ThreadSeen{Pitch: all, Left: all, Right: all, Above: all, Below: all, Starts: all, Taper: all}
}

// just returns what agrees with one form only.
func just(f api.ThreadForm) api.ThreadSeen {
	s := api.ThreadSeen{
		Pitch: span(f.Pitch, f.Pitch), Left: span(f.Left, f.Left), Right: span(f.Right, f.Right),
		Above: span(f.Above, f.Above), Below: span(f.Below, f.Below), Starts: span(f.Starts, f.Starts), Taper: span(f.Taper, f.Taper),
		Hand: api.ThreadRight,
	}
	if f.LeftHand {
		s.Hand = api.ThreadLeft
	}
	return s
}

// spansOf returns where each span of what was seen stands.
func spansOf(s *api.ThreadSeen) []*api.Span {
	return []*api.Span{&s.Pitch, &s.Left, &s.Right, &s.Above, &s.Below, &s.Starts, &s.Taper}
}

// numbersOf returns the numbers of a form, in the order of spansOf.
func numbersOf(f api.ThreadForm) []int {
	return []int{f.Pitch, f.Left, f.Right, f.Above, f.Below, f.Starts, f.Taper}
}

// exampleTable is the table of the chapter's example 6.
func exampleTable() []api.ThreadForm {
	return []api.ThreadForm{metric(), metric(pitch(10100)), metric(leans(600, 600))}
}

// TestAgree is for P1.10.
func TestAgree(t *testing.T) {
	table := append(exampleTable(), metric(starts(2)), metric(leftHand()), metric(above(3100)), metric(below(2900)), metric(taper(9)), metric(left(570)), metric(right(571)))
	all := []int{0, 1, 2, 3, 4, 5, 6, 7, 8, 9}
	for i, c := range []struct {
		change func(s *api.ThreadSeen)
		want   []int
	}{
		{func(s *api.ThreadSeen) {}, all},
		{func(s *api.ThreadSeen) { s.Pitch = span(10040, 10160) }, []int{1}},
		{func(s *api.ThreadSeen) { s.Pitch = span(10001, 10100) }, []int{1}},
		{func(s *api.ThreadSeen) { s.Pitch = span(10100, 10100) }, []int{1}},
		{func(s *api.ThreadSeen) { s.Pitch = span(10101, 10200) }, nil},
		{func(s *api.ThreadSeen) { s.Pitch = span(0, 9999) }, nil},
		{func(s *api.ThreadSeen) { s.Left = span(578, 600) }, []int{2}},
		{func(s *api.ThreadSeen) { s.Left = span(0, 570) }, []int{8}},
		{func(s *api.ThreadSeen) { s.Right = span(571, 571) }, []int{9}},
		{func(s *api.ThreadSeen) { s.Right = span(578, 10000000) }, []int{2}},
		{func(s *api.ThreadSeen) { s.Above = span(3001, 3100) }, []int{5}},
		{func(s *api.ThreadSeen) { s.Below = span(2900, 2999) }, []int{6}},
		{func(s *api.ThreadSeen) { s.Starts = span(2, 8) }, []int{3}},
		{func(s *api.ThreadSeen) { s.Starts = span(0, 0) }, nil},
		{func(s *api.ThreadSeen) { s.Taper = span(1, 9) }, []int{7}},
		{func(s *api.ThreadSeen) { s.Taper = span(0, 8) }, []int{0, 1, 2, 3, 4, 5, 6, 8, 9}},
		{func(s *api.ThreadSeen) { s.Hand = api.ThreadLeft }, []int{4}},
		{func(s *api.ThreadSeen) { s.Hand = api.ThreadRight }, []int{0, 1, 2, 3, 5, 6, 7, 8, 9}},
		{func(s *api.ThreadSeen) { s.Pitch, s.Hand = span(10100, 10100), api.ThreadLeft }, nil},
	} {
		s := wide()
		c.change(&s)
		if got, e := thread.Agree(table, s); !slices.Equal(got, c.want) || e != api.OK {
			t.Error(i, got, e)
		}
	}
	for i, f := range table {
		if got, e := thread.Agree(table, just(f)); !slices.Equal(got, []int{i}) || e != api.OK {
			t.Error("just", i, got, e)
		}
	}
	if got, e := thread.Agree(append(table, table...), just(table[4])); !slices.Equal(got, []int{4, 14}) || e != api.OK {
		t.Error("twice", got, e)
	}
}

// TestAgreeRange is for P1.10: spans and hands that are not valid, for an empty table too.
func TestAgreeRange(t *testing.T) {
	tables := [][]api.ThreadForm{nil, {}, exampleTable()}
	for _, table := range tables {
		for i := range numbersOf(metric()) {
			for _, bad := range []api.Span{span(5, 4), span(-1, 4), span(-1, -1), span(0, 10000001), span(10000001, 10000001), span(math.MinInt, math.MaxInt), span(math.MaxInt, math.MinInt)} {
				s := wide()
				*spansOf(&s)[i] = bad
				if got, e := thread.Agree(table, s); len(got) != 0 || e != api.ErrRange {
					t.Error(i, bad, got, e)
				}
			}
			for _, good := range []api.Span{span(0, 0), span(10000000, 10000000), span(0, 10000000)} {
				s := wide()
				*spansOf(&s)[i] = good
				if _, e := thread.Agree(table, s); e != api.OK {
					t.Error(i, good, e)
				}
			}
		}
		for _, hand := range []api.ThreadHand{-1, 3, math.MinInt, math.MaxInt} {
			s := wide()
			s.Hand = hand
			if got, e := thread.Agree(table, s); len(got) != 0 || e != api.ErrRange {
				t.Error(hand, got, e)
			}
		}
	}
}

// TestAlike is for P1.11.
func TestAlike(t *testing.T) {
	large := api.ThreadErrors{Pitch: 10000000, Lean: 10000000, Depth: 10000000}
	for i, c := range []struct {
		table  []api.ThreadForm
		errors api.ThreadErrors
		want   [][2]int
	}{
		{exampleTable(), api.ThreadErrors{Pitch: 60, Lean: 5}, [][2]int{{0, 1}}},
		{exampleTable(), api.ThreadErrors{Pitch: 50, Lean: 12}, [][2]int{{0, 1}, {0, 2}, {1, 2}}},
		{exampleTable(), api.ThreadErrors{Lean: 12}, [][2]int{{0, 2}}},
		{exampleTable(), api.ThreadErrors{Lean: 11}, nil},
		{exampleTable(), api.ThreadErrors{Depth: 10000000}, nil},
		{exampleTable(), large, [][2]int{{0, 1}, {0, 2}, {1, 2}}},
		{nil, large, nil},
		{[]api.ThreadForm{metric()}, large, nil},
		{slices.Repeat([]api.ThreadForm{metric()}, 4), api.ThreadErrors{}, [][2]int{{0, 1}, {0, 2}, {0, 3}, {1, 2}, {1, 3}, {2, 3}}},
		{[]api.ThreadForm{metric(), metric(starts(2)), metric(starts(2))}, large, [][2]int{{1, 2}}},
		{[]api.ThreadForm{metric(leftHand()), metric(), metric(leftHand())}, large, [][2]int{{0, 2}}},
		{[]api.ThreadForm{metric(taper(1)), metric(taper(2)), metric(), metric(taper(1))}, large, [][2]int{{0, 3}}},
		// Being alike does not go on from pair to pair.
		{[]api.ThreadForm{metric(pitch(10100)), metric(pitch(10200)), metric()}, api.ThreadErrors{Pitch: 50}, [][2]int{{0, 1}, {0, 2}}},
	} {
		if got, e := thread.Alike(c.table, c.errors); !slices.Equal(got, c.want) || e != api.OK {
			t.Error(i, got, e)
		}
	}
}

// TestAlikeBounds is for P1.11: each number may differ by just twice its own error, in both directions.
func TestAlikeBounds(t *testing.T) {
	for i, c := range []struct {
		more   change
		errors func(n int) api.ThreadErrors
	}{
		{func(f *api.ThreadForm) { f.Pitch += 14 }, func(n int) api.ThreadErrors { return api.ThreadErrors{Pitch: n} }},
		{func(f *api.ThreadForm) { f.Left += 14 }, func(n int) api.ThreadErrors { return api.ThreadErrors{Lean: n} }},
		{func(f *api.ThreadForm) { f.Right += 14 }, func(n int) api.ThreadErrors { return api.ThreadErrors{Lean: n} }},
		{func(f *api.ThreadForm) { f.Above += 14 }, func(n int) api.ThreadErrors { return api.ThreadErrors{Depth: n} }},
		{func(f *api.ThreadForm) { f.Below += 14 }, func(n int) api.ThreadErrors { return api.ThreadErrors{Depth: n} }},
	} {
		for _, table := range [][]api.ThreadForm{{metric(), metric(c.more)}, {metric(c.more), metric()}} {
			got, e := thread.Alike(table, c.errors(7))
			if !slices.Equal(got, [][2]int{{0, 1}}) || e != api.OK {
				t.Error(i, "within", got, e)
			}
			got, e = thread.Alike(table, c.errors(6))
			if len(got) != 0 || e != api.OK {
				t.Error(i, "beyond", got, e)
			}
			others := api.ThreadErrors{Pitch: 99 - 99*c.errors(1).Pitch, Lean: 99 - 99*c.errors(1).Lean, Depth: 99 - 99*c.errors(1).Depth}
			got, e = thread.Alike(table, others)
			if len(got) != 0 || e != api.OK {
				t.Error(i, "other errors", got, e)
			}
		}
	}
	both := []api.ThreadForm{metric(), metric(leans(584, 569))}
	for wrong, want := range map[int]int{4: 1, 3: 0} {
		if got, e := thread.Alike(both, api.ThreadErrors{Lean: wrong}); len(got) != want || e != api.OK {
			t.Error("both leans", wrong, got, e)
		}
	}
}

// TestAlikeRange is for P1.11: errors of measuring that are not valid, for an empty table too.
func TestAlikeRange(t *testing.T) {
	for _, table := range [][]api.ThreadForm{nil, exampleTable()} {
		for _, n := range []int{-1, 10000001, math.MinInt, math.MaxInt} {
			for _, errors := range []api.ThreadErrors{{Pitch: n}, {Lean: n}, {Depth: n}} {
				if got, e := thread.Alike(table, errors); len(got) != 0 || e != api.ErrRange {
					t.Error(errors, got, e)
				}
			}
		}
	}
}

// TestTableLong is for P1.10 and P1.11: a table of 100 forms may be, one of 101 may not, whatever else is wrong.
func TestTableLong(t *testing.T) {
	full := slices.Repeat([]api.ThreadForm{metric()}, 100)
	l, e := thread.Agree(full, wide())
	if len(l) != 100 || l[99] != 99 || e != api.OK {
		t.Error(len(l), e)
	}
	pairs, e := thread.Alike(full, api.ThreadErrors{})
	if len(pairs) != 4950 || e != api.OK || !slices.IsSortedFunc(pairs, func(a, b [2]int) int { return slices.Compare(a[:], b[:]) }) {
		t.Error(len(pairs), e)
	}
	for _, last := range []api.ThreadForm{metric(), {}} {
		long := append(slices.Clone(full), last)
		long[0] = last
		for _, seen := range []api.ThreadSeen{wide(), {Hand: 9}} {
			if l, e := thread.Agree(long, seen); len(l) != 0 || e != api.ErrLong {
				t.Error(len(l), e)
			}
		}
		for _, errors := range []api.ThreadErrors{{}, {Lean: -1}} {
			if l, e := thread.Alike(long, errors); len(l) != 0 || e != api.ErrLong {
				t.Error(len(l), e)
			}
		}
	}
}

// seenOfBoth returns what was measured within errors of both of two forms, if anything can be.
func seenOfBoth(a, b api.ThreadForm, errors api.ThreadErrors) (api.ThreadSeen, bool) {
	if a.LeftHand != b.LeftHand {
		return api.ThreadSeen{}, false
	}
	s := just(a)
	widths := []int{2 * errors.Pitch, 2 * errors.Lean, 2 * errors.Lean, 2 * errors.Depth, 2 * errors.Depth, 0, 0}
	x, y := numbersOf(a), numbersOf(b)
	for i, to := range spansOf(&s) {
		*to = span(min(x[i], y[i]), max(x[i], y[i]))
		if to.High-to.Low > widths[i] {
			return api.ThreadSeen{}, false
		}
	}
	return s, true
}

// TestToldApart is for P1.16: forms are alike just if something can be measured with which both agree.
func TestToldApart(t *testing.T) {
	table := slices.Concat(exampleTable(), forms(), []api.ThreadForm{metric(above(3004)), metric(below(2995)), metric(leans(579, 576), pitch(10003)), metric(leftHand())})
	for _, errors := range []api.ThreadErrors{{}, {Pitch: 2, Lean: 1}, {Pitch: 60, Lean: 5}, {Depth: 2}, {Pitch: 50, Lean: 12, Depth: 3}, {Pitch: 100000, Lean: 3000, Depth: 200000}} {
		pairs, e := thread.Alike(table, errors)
		if e != api.OK {
			t.Fatal(errors, e)
		}
		for k := range table {
			for i := range k {
				seen, possible := seenOfBoth(table[i], table[k], errors)
				if slices.Contains(pairs, [2]int{i, k}) != possible {
					t.Error(errors, i, k, possible)
				}
				if !possible {
					continue
				}
				if l, e := thread.Agree(table, seen); e != api.OK || !slices.Contains(l, i) || !slices.Contains(l, k) {
					t.Error(errors, i, k, l, e)
				}
			}
		}
	}
}

// TestMeasured is for P1.16: what was measured within errors agrees with the form, and all forms that agree with it are alike.
func TestMeasured(t *testing.T) {
	table := slices.Concat(exampleTable(), []api.ThreadForm{metric(pitch(10020)), metric(pitch(9990), left(580)), metric(right(570), above(2995)), metric(below(3010)), metric(leftHand()), metric(taper(1)), metric(starts(2))})
	errors := api.ThreadErrors{Pitch: 10, Lean: 4, Depth: 5}
	pairs, e := thread.Alike(table, errors)
	if e != api.OK {
		t.Fatal(e)
	}
	for i, f := range table {
		for part := range 5 {
			s := just(f)
			for k, wrong := range []int{errors.Pitch, errors.Lean, errors.Lean, errors.Depth, errors.Depth, 0, 0} {
				to := spansOf(&s)[k]
				to.Low -= min(2*wrong*part/4, to.Low)
				to.High += 2*wrong - 2*wrong*part/4
			}
			l, e := thread.Agree(table, s)
			if e != api.OK || !slices.Contains(l, i) {
				t.Error(i, part, l, e)
			}
			for b := range l {
				for a := range b {
					if !slices.Contains(pairs, [2]int{l[a], l[b]}) {
						t.Error("agree and are not alike", i, part, l[a], l[b])
					}
				}
			}
		}
	}
}
