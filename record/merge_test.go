package record_test

import (
	"maps"
	"slices"
	"testing"

	"acme/api"
	"acme/record"
)

// TestMerge is for P13.8: all events of both, each once, in order.
func TestMerge(t *testing.T) {
	l := three()
	odd, even := history{}, history{}
	for i, v := range trials(500) {
		if i%2 == 0 {
			even = append(even, v)
		} else {
			odd = append(odd, v)
		}
	}
	for i, c := range []struct{ a, b, want history }{
		{nil, nil, nil}, {nil, history{}, nil}, {l, nil, l}, {history{}, l, l}, {l, l, l}, {l[:1], l[1:], l}, {l[1:], l[:1], l}, {l[:2], l[1:], l}, {history{l[0], l[2]}, l[1:2], l}, {l[1:2], l, l}, {odd, even, trials(500)}, {trials(500), trials(500), trials(500)}, {trials(500), odd, trials(500)}, {trials(499), trials(500)[499:], trials(500)},
		// They are merged by day, then gauge, then number, whatever was done.
		{history{at(3, 3, 3, tried(9))}, history{at(3, 3, 2, goes(9)), at(3, 4, 0, stays(0))}, history{at(3, 3, 2, goes(9)), at(3, 3, 3, tried(9)), at(3, 4, 0, stays(0))}}, {history{at(3, 9, 9, tried(1))}, history{at(2, 255, 255, tried(2)), at(4, 0, 0, tried(1))}, history{at(2, 255, 255, tried(2)), at(3, 9, 9, tried(1)), at(4, 0, 0, tried(1))}},
	} {
		if got, e := record.Merge(c.a, c.b); !slices.Equal(got, c.want) || e != api.OK {
			t.Error(i, got, e)
		}
	}
}

// TestMergeByWords is for P13.8: histories that share some events, against the set of their events.
func TestMergeByWords(t *testing.T) {
	r := dice()
	twice := 0
	for range 3000 {
		a := anyHistory(r, 20)
		b := anyHistory(r, 20)
		for _, v := range a {
			if r.IntN(50) == 0 {
				v.Event = anyDeed(r)
			}
			if r.IntN(2) == 0 {
				b = append(b, v)
			}
		}
		b = onceEach(b)
		all, differ := map[[3]int]api.RecordEvent{}, false
		for _, v := range append(slices.Clone(a), b...) {
			key := [3]int{v.Day, v.Gauge, v.Number}
			before, found := all[key]
			differ = differ || found && before != v
			all[key] = v
		}
		want, wantE := onceEach(slices.Collect(maps.Values(all))), api.OK
		if differ {
			want, wantE = nil, api.ErrTwice
			twice++
		}
		if got, e := record.Merge(a, b); !slices.Equal(got, want) || e != wantE {
			t.Fatal(a, b, got, e)
		}
	}
	if twice < 100 {
		t.Error("seldom", twice)
	}
}

// onceEach returns events in order, of several ones with the same day, gauge and number one only.
func onceEach(l history) history {
	all := map[[3]int]api.RecordEvent{}
	for _, v := range l {
		all[[3]int{v.Day, v.Gauge, v.Number}] = v
	}
	return slices.SortedFunc(maps.Values(all), func(v, o api.RecordEvent) int {
		if isAfter(v, o) {
			return 1
		}
		return -1
	})
}

// TestMergeTwice is for P13.8: events of the same day, gauge and number that are not the same; this comes before too many events.
func TestMergeTwice(t *testing.T) {
	for i, c := range []struct{ a, b history }{
		{history{at(3, 3, 3, tried(9))}, history{at(3, 3, 3, tried(8))}}, {history{at(3, 3, 3, tried(9))}, history{at(3, 3, 3, goes(8))}}, {history{at(3, 3, 3, goes(8))}, history{at(3, 3, 3, stays(8))}}, {history{at(3, 3, 3, goes(8))}, history{at(3, 3, 3, goes(7))}}, {append(three(), at(9, 9, 9, tried(1))), append(three(), at(9, 9, 9, tried(2)))}, {trials(500), history{at(0, 7, 0, stays(1))}}, {history{at(499, 7, 0, tried(1))}, trials(500)},
		// Together they are too many, too.
		{trials(500), append(history{at(3, 7, 0, tried(9))}, trials(500)[4:]...)}, {trials(500), history{at(3, 7, 0, tried(9)), at(3, 7, 1, tried(9))}}, {trials(500), history{at(3, 7, 1, tried(9)), at(499, 7, 0, tried(9))}},
	} {
		for range 2 {
			if got, e := record.Merge(c.a, c.b); got != nil || e != api.ErrTwice {
				t.Error(i, got, e)
			}
			c.a, c.b = c.b, c.a
		}
	}
}

// TestMergeLong is for P13.8: too many events of both together.
func TestMergeLong(t *testing.T) {
	one := history{at(600, 0, 0, tried(1))}
	other := trials(500)
	for i := range other {
		other[i].Gauge = 8
	}
	for i, c := range []struct{ a, b history }{{trials(500), one}, {one, trials(500)}, {trials(500), other}, {trials(250), other[:251]}} {
		if got, e := record.Merge(c.a, c.b); got != nil || e != api.ErrLong {
			t.Error(i, got, e)
		}
	}
	for i, c := range []struct{ a, b history }{{trials(499), one}, {trials(250), other[:250]}, {trials(499), append(trials(499)[:498:498], one...)}} {
		if got, e := record.Merge(c.a, c.b); len(got) != min(500, len(c.a)+len(c.b)) || e != api.OK {
			t.Error(i, got, e)
		}
	}
}

// badHistories returns histories that are not valid, by their error.
func badHistories() map[api.Errno][]history {
	wrong := []history{append(three(), at(9, 1, 1, tried(0)), three()[0]), {at(9, 1, 1, stays(10))}}
	for _, v := range wrongEvents() {
		wrong = append(wrong, append(three(), v))
	}
	return map[api.Errno][]history{api.ErrLong: {trials(501), make(history, 5000)}, api.ErrArg: wrong, api.ErrForm: append(badOrders(), append(three(), three()...))}
}

// TestMergeErrors is for P13.8: the errors of Log for the first history come before those for the second one, and before all others.
func TestMergeErrors(t *testing.T) {
	for want, all := range badHistories() {
		for i, l := range all {
			for _, other := range []history{nil, three(), trials(500), {at(3, 3, 3, goes(2)), at(9, 1, 1, tried(5))}} {
				if got, e := record.Merge(l, other); got != nil || e != want {
					t.Error(i, l, got, e, want)
				}
				if got, e := record.Merge(other, l); got != nil || e != want {
					t.Error(i, l, got, e, want)
				}
			}
			for _, others := range badHistories() {
				if got, e := record.Merge(l, others[0]); got != nil || e != want {
					t.Error(i, l, others[0], got, e, want)
				}
			}
		}
	}
}
