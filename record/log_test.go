package record_test

import (
	"bytes"
	"slices"
	"testing"

	"acme/api"
	"acme/record"
)

// goodHistories returns histories that are valid, with each limit reached.
func goodHistories() []history {
	first, last := at(0, 0, 0, tried(1)), at(65535, 255, 255, tried(100000))
	l := []history{
		nil, {}, {first}, {last}, {first, last}, three(), trials(499), trials(500), {at(258, 7, 0, tried(1000))},
		{at(1, 1, 1, goes(0)), at(1, 1, 2, stays(0)), at(1, 1, 3, goes(9)), at(1, 1, 4, stays(9)), at(1, 1, 5, tried(65535)), at(1, 1, 6, tried(65536)), at(1, 1, 7, tried(256))},
		// The day comes first, then the gauge, whatever the others are.
		{at(3, 9, 9, tried(1)), at(4, 0, 0, tried(1))}, {at(3, 3, 9, tried(1)), at(3, 4, 0, tried(1))}, {at(255, 255, 255, tried(1)), at(256, 0, 0, tried(1))}, {at(3, 3, 3, goes(9)), at(3, 3, 4, tried(1))},
	}
	r := dice()
	for range 100 {
		l = append(l, anyHistory(r, 60))
	}
	return l
}

// TestLogExample is for P13.5: the chapter's example 3.
func TestLogExample(t *testing.T) {
	log, number, e := record.Log(history{at(258, 7, 0, tried(1000))})
	if !bytes.Equal(log, []byte{1, 2, 7, 0, 0, 0, 0, 3, 232, 191}) || number != 0 || e != api.OK {
		t.Error(log, number, e)
	}
}

// TestLogBytes is for P13.5: each value stands in its bytes.
func TestLogBytes(t *testing.T) {
	for i, c := range []struct {
		v    api.RecordEvent
		want []byte
	}{
		{at(0, 0, 0, tried(1)), []byte{0, 0, 0, 0, 0, 0, 0, 0, 1, 17}}, {at(65535, 0, 0, tried(1)), []byte{255, 255, 0, 0, 0, 0, 0, 0, 1, 13}}, {at(0, 255, 0, tried(1)), []byte{0, 0, 255, 0, 0, 0, 0, 0, 1, 12}}, {at(0, 0, 255, tried(1)), []byte{0, 0, 0, 255, 0, 0, 0, 0, 1, 10}},
		{at(0, 0, 0, tried(100000)), []byte{0, 0, 0, 0, 0, 0, 1, 134, 160, 135}}, {at(0, 0, 0, tried(65536)), []byte{0, 0, 0, 0, 0, 0, 1, 0, 0, 13}}, {at(0, 0, 0, tried(256)), []byte{0, 0, 0, 0, 0, 0, 0, 1, 0, 15}},
		{at(0, 0, 0, stays(0)), []byte{0, 0, 0, 0, 1, 0, 0, 0, 0, 9}}, {at(0, 0, 0, goes(0)), []byte{0, 0, 0, 0, 1, 1, 0, 0, 0, 20}}, {at(0, 0, 0, stays(9)), []byte{0, 0, 0, 0, 10, 0, 0, 0, 0, 90}}, {at(513, 3, 4, goes(4)), []byte{2, 1, 3, 4, 5, 1, 0, 0, 0, 104}},
	} {
		log, number, e := record.Log(history{c.v})
		if !bytes.Equal(log, c.want) || number != 0 || e != api.OK {
			t.Error(i, log, number, e)
		}
		l, number, e := record.Events(c.want)
		if !slices.Equal(l, history{c.v}) || number != 0 || e != api.OK {
			t.Error(i, l, number, e)
		}
	}
}

// TestLog is for P13.5: a log is the records of a history, one after the other.
func TestLog(t *testing.T) {
	for _, l := range goodHistories() {
		if log, number, e := record.Log(l); !bytes.Equal(log, bytesOfAll(l...)) || number != 0 || e != api.OK {
			t.Error(l, log, number, e)
		}
	}
}

// TestLogArg is for P13.5: an event that is not valid is found by its number, even if it is not greater than the one before.
func TestLogArg(t *testing.T) {
	for _, wrong := range wrongEvents() {
		for i, c := range []struct {
			l      history
			number int
		}{
			{history{wrong}, 0}, {history{at(0, 0, 0, tried(5)), wrong}, 1}, {history{at(65535, 255, 255, tried(5)), wrong}, 1}, {append(trials(499), wrong), 499}, {history{wrong, wrong, at(0, 0, 0, tried(1))}, 0}, {append(three(), wrong, at(0, 0, 0, tried(5))), 3},
		} {
			if log, number, e := record.Log(c.l); log != nil || number != c.number || e != api.ErrArg {
				t.Error(i, c.l, log, number, e)
			}
		}
	}
}

// badOrders returns histories whose event 1 is not greater than the event 0.
func badOrders() []history {
	return []history{
		{at(3, 3, 3, tried(1)), at(3, 3, 3, tried(1))}, {at(3, 3, 3, tried(1)), at(3, 3, 3, goes(9))}, {at(3, 3, 3, tried(1)), at(3, 3, 3, tried(2))}, {at(3, 3, 3, tried(1)), at(3, 3, 2, tried(1))}, {at(3, 3, 3, tried(1)), at(3, 2, 4, tried(1))}, {at(3, 3, 3, tried(1)), at(2, 4, 4, tried(1))}, {at(3, 3, 3, tried(1)), at(2, 3, 3, tried(1))}, {at(3, 3, 3, tried(1)), at(3, 2, 3, tried(1))},
		{at(256, 0, 0, tried(1)), at(255, 255, 255, tried(1))}, {at(65535, 255, 255, tried(1)), at(0, 0, 0, tried(1))}, {at(3, 1, 0, tried(1)), at(3, 0, 255, tried(1))},
	}
}

// TestLogForm is for P13.5: an event that is not greater than the one before is found by its number, before later ones that are not valid.
func TestLogForm(t *testing.T) {
	for _, l := range badOrders() {
		for i, c := range []struct {
			l      history
			number int
		}{
			{l, 1}, {append(slices.Clone(l), at(-1, 0, 0, tried(0))), 1}, {append(slices.Clone(l), l...), 1}, {append(history{at(0, 0, 0, goes(1))}, append(slices.Clone(l), at(9, 300, 0, tried(0)))...), 2}, {append(slices.Clone(l), slices.Repeat(l, 249)...), 1},
		} {
			if log, number, e := record.Log(c.l); log != nil || number != c.number || e != api.ErrForm {
				t.Error(i, c.l, log, number, e)
			}
		}
	}
	l := append(trials(499), at(497, 255, 255, tried(1)))
	if log, number, e := record.Log(l); log != nil || number != 499 || e != api.ErrForm {
		t.Error(log, number, e)
	}
}

// TestLogLong is for P13.5: more events than there may be come before all other errors.
func TestLogLong(t *testing.T) {
	for i, l := range []history{trials(501), make(history, 501), make(history, 5000), append(trials(500), at(-1, 0, 0, tried(0))), slices.Repeat(badOrders()[0], 251)} {
		if log, number, e := record.Log(l); log != nil || number != 0 || e != api.ErrLong {
			t.Error(i, log, number, e)
		}
	}
}

// TestEventsExample is for P13.6: the chapter's examples 3 and 4.
func TestEventsExample(t *testing.T) {
	for last := range 256 {
		l, number, e := record.Events([]byte{1, 2, 7, 0, 0, 0, 0, 3, 232, byte(last)})
		right := slices.Equal(l, history{at(258, 7, 0, tried(1000))}) && number == 0 && e == api.OK
		if last != 191 {
			right = l == nil && number == 0 && e == api.ErrRecordSum
		}
		if !right {
			t.Error(last, l, number, e)
		}
	}
	if l, number, e := record.Events(spoilt(bytesOfAll(three()...), 1, 8, 1)); l != nil || number != 1 || e != api.ErrRecordSum {
		t.Error(l, number, e)
	}
}

// TestEvents is for P13.6: the history of its records.
func TestEvents(t *testing.T) {
	for _, want := range goodHistories() {
		if l, number, e := record.Events(bytesOfAll(want...)); !slices.Equal(l, want) || number != 0 || e != api.OK {
			t.Error(want, l, number, e)
		}
	}
}

// strangeRecords returns records whose check is right, but that are those of no event.
func strangeRecords() [][]byte {
	return [][]byte{
		checked(0, 0, 0, 0, 0, 0, 0, 0, 0), checked(9, 9, 9, 9, 0, 0, 0, 0, 0), checked(9, 9, 9, 9, 0, 0, 1, 134, 161), checked(9, 9, 9, 9, 0, 0, 2, 0, 0), checked(9, 9, 9, 9, 0, 0, 255, 255, 255), checked(9, 9, 9, 9, 0, 0, 128, 0, 1),
		checked(9, 9, 9, 9, 0, 1, 0, 0, 0), checked(9, 9, 9, 9, 0, 1, 0, 0, 5), checked(9, 9, 9, 9, 0, 2, 0, 0, 5), checked(9, 9, 9, 9, 0, 255, 0, 0, 5), checked(9, 9, 9, 9, 0, 128, 0, 0, 5),
		checked(9, 9, 9, 9, 11, 0, 0, 0, 0), checked(9, 9, 9, 9, 11, 1, 0, 0, 0), checked(9, 9, 9, 9, 255, 0, 0, 0, 0), checked(9, 9, 9, 9, 255, 0, 0, 0, 5), checked(9, 9, 9, 9, 128, 1, 0, 0, 0),
		checked(9, 9, 9, 9, 1, 2, 0, 0, 0), checked(9, 9, 9, 9, 1, 255, 0, 0, 0), checked(9, 9, 9, 9, 10, 2, 0, 0, 0), checked(9, 9, 9, 9, 1, 0, 0, 0, 1), checked(9, 9, 9, 9, 1, 1, 0, 1, 0), checked(9, 9, 9, 9, 10, 1, 1, 0, 0), checked(255, 255, 255, 255, 255, 255, 255, 255, 255),
	}
}

// TestEventsArg is for P13.6: a record whose check is right, but which is that of no event.
func TestEventsArg(t *testing.T) {
	for _, wrong := range strangeRecords() {
		for i, c := range []struct {
			log    []byte
			number int
		}{
			{wrong, 0}, {slices.Concat(bytesOfAll(three()...), wrong), 3}, {slices.Concat(bytesOfAll(at(65535, 255, 255, goes(1))), wrong), 1}, {slices.Concat(wrong, []byte{1}), 0}, {slices.Concat(bytesOfAll(trials(499)...), wrong, wrong), 499},
		} {
			if l, number, e := record.Events(c.log); l != nil || number != c.number || e != api.ErrArg {
				t.Error(i, wrong, l, number, e)
			}
		}
		// The check comes first.
		if l, number, e := record.Events(spoilt(wrong, 0, 9, 1)); l != nil || number != 0 || e != api.ErrRecordSum {
			t.Error(wrong, l, number, e)
		}
	}
}

// TestEventsForm is for P13.6: an event that is not greater than the one before.
func TestEventsForm(t *testing.T) {
	for _, l := range badOrders() {
		log := bytesOfAll(l...)
		for i, more := range [][]byte{nil, {1}, log, strangeRecords()[0], make([]byte, 10000)} {
			if got, number, e := record.Events(slices.Concat(log, more)); got != nil || number != 1 || e != api.ErrForm {
				t.Error(i, l, got, number, e)
			}
		}
		if got, number, e := record.Events(spoilt(log, 1, 3, 100)); got != nil || number != 1 || e != api.ErrRecordSum {
			t.Error(l, got, number, e)
		}
	}
}

// TestEventsCut is for P13.6: a log that ends within a record.
func TestEventsCut(t *testing.T) {
	log := bytesOfAll(three()...)
	for length := range len(log) + 1 {
		l, number, e := record.Events(log[:length])
		right := l == nil && number == length/10 && e == api.ErrRecordCut
		if length%10 == 0 {
			right = slices.Equal(l, three()[:length/10]) && number == 0 && e == api.OK
		}
		if !right {
			t.Error(length, l, number, e)
		}
	}
	// Nothing else is said of a record that is cut.
	for i, rest := range [][]byte{strangeRecords()[0][:9], make([]byte, 9), {255}, bytesOf(three()[0])[:9]} {
		if l, number, e := record.Events(slices.Concat(log, rest)); l != nil || number != 3 || e != api.ErrRecordCut {
			t.Error(i, l, number, e)
		}
	}
	if l, number, e := record.Events(slices.Concat(bytesOfAll(trials(499)...), make([]byte, 9))); l != nil || number != 499 || e != api.ErrRecordCut {
		t.Error(l, number, e)
	}
}

// TestEventsLong is for P13.6: a record behind as many as there may be is too much, whatever it is; but errors of earlier records come first.
func TestEventsLong(t *testing.T) {
	full := bytesOfAll(trials(500)...)
	if l, number, e := record.Events(full); !slices.Equal(l, trials(500)) || number != 0 || e != api.OK {
		t.Error(l, number, e)
	}
	for i, more := range [][]byte{{0}, {1, 2, 3}, make([]byte, 9), bytesOf(at(600, 0, 0, tried(1))), bytesOf(at(0, 0, 0, tried(1))), spoilt(bytesOf(at(600, 0, 0, tried(1))), 0, 0, 1), strangeRecords()[0], full, make([]byte, 50000)} {
		log := slices.Concat(full, more)
		if l, number, e := record.Events(log); l != nil || number != 500 || e != api.ErrLong {
			t.Error(i, l, number, e)
		}
		if l, number, e := record.Events(spoilt(log, 499, 9, 1)); l != nil || number != 499 || e != api.ErrRecordSum {
			t.Error(i, l, number, e)
		}
		if l, number, e := record.Events(spoilt(log, 3, 0, 1)); l != nil || number != 3 || e != api.ErrRecordSum {
			t.Error(i, l, number, e)
		}
	}
}

// TestEventsByWords is for P13.6: logs that are nearly right, against what the chapter says record by record.
func TestEventsByWords(t *testing.T) {
	r := dice()
	seen := map[api.Errno]int{}
	for range 20000 {
		log := anyLog(r)
		want, wantAt, wantE := eventsByWords(log)
		l, number, e := record.Events(log)
		if !slices.Equal(l, want) || number != wantAt || e != wantE {
			t.Fatal(log, l, number, e, want, wantAt, wantE)
		}
		seen[e]++
	}
	for _, e := range []api.Errno{api.OK, api.ErrArg, api.ErrForm, api.ErrRecordCut, api.ErrRecordSum} {
		if seen[e] < 500 {
			t.Error("seldom", e, seen[e])
		}
	}
}
