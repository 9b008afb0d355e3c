package record_test

import (
	"math/rand/v2"
	"slices"
	"testing"

	"acme/api"
	"acme/record"
)

// anyLog returns a log that may be wrong here and there.
func anyLog(r *rand.Rand) []byte {
	l := anyHistory(r, 8)
	log := bytesOfAll(l...)
	for range r.IntN(3) {
		if len(log) < api.RecordSize {
			break
		}
		number := r.IntN(len(log) / api.RecordSize)
		from, to := number*api.RecordSize, (number+1)*api.RecordSize
		switch r.IntN(6) {
		case 0:
			log = spoilt(log, number, r.IntN(api.RecordSize), r.IntN(256))
		case 1:
			log = slices.Insert(log, from, strangeRecords()[r.IntN(len(strangeRecords()))]...)
		case 2:
			log = slices.Insert(log, r.IntN(len(log)/api.RecordSize)*api.RecordSize, slices.Clone(log[from:to])...)
		case 3:
			log = slices.Insert(log, from, bytesOf(at(r.IntN(9), r.IntN(9), r.IntN(9), anyDeed(r)))...)
		case 4:
			log = log[:r.IntN(len(log)+1)]
		case 5:
			place := r.IntN(len(log))
			log = slices.Delete(log, place, min(len(log), place+anyOf(r, 1, 10)))
		}
	}
	return log
}

// readByWords returns the event of a record by the chapter's words, and the error of it.
func readByWords(b []byte) (api.RecordEvent, api.Errno) {
	if len(b) < 10 {
		return api.RecordEvent{}, api.ErrRecordCut
	}
	total := 0
	for place, value := range b[:9] {
		total += (1 + 2*place) * int(value)
	}
	if total%256 != int(b[9]) {
		return api.RecordEvent{}, api.ErrRecordSum
	}
	did := api.GaugeEvent{Pieces: int(b[6])*65536 + int(b[7])*256 + int(b[8]), Master: int(b[4]) - 1, Goes: b[5] > 0}
	if v := at(int(b[0])*256+int(b[1]), int(b[2]), int(b[3]), did); isEvent(v) && b[5] <= 1 {
		return v, api.OK
	}
	return api.RecordEvent{}, api.ErrArg
}

// eventsByWords returns what Events must, if there are not too many records.
func eventsByWords(log []byte) (l history, number int, e api.Errno) {
	for part := range slices.Chunk(log, 10) {
		v, e := readByWords(part)
		if e != api.OK {
			return nil, number, e
		}
		if len(l) > 0 && !isAfter(v, l[len(l)-1]) {
			return nil, number, api.ErrForm
		}
		l = append(l, v)
		number++
	}
	return l, 0, api.OK
}

// salvagedByWords returns what Salvage must, if the log is not too long.
func salvagedByWords(log []byte) (l history, bad []int) {
	for number := 0; 10*number < len(log); number++ {
		v, e := readByWords(log[10*number : min(10*number+10, len(log))])
		if e == api.OK && (len(l) == 0 || isAfter(v, l[len(l)-1])) {
			l = append(l, v)
		} else {
			bad = append(bad, number)
		}
	}
	return l, bad
}

// TestSalvageExample is for P13.7: the chapter's example 4.
func TestSalvageExample(t *testing.T) {
	l, bad, e := record.Salvage(spoilt(bytesOfAll(three()...), 1, 8, 1))
	if !slices.Equal(l, history{three()[0], three()[2]}) || !slices.Equal(bad, []int{1}) || e != api.OK {
		t.Error(l, bad, e)
	}
}

// TestSalvage is for P13.7.
func TestSalvage(t *testing.T) {
	log := bytesOfAll(three()...)
	early, late, same := bytesOf(at(3, 0, 9, goes(1))), bytesOf(at(65535, 255, 255, goes(1))), bytesOf(at(3, 2, 0, stays(1)))
	for i, c := range []struct {
		log []byte
		l   history
		bad []int
	}{
		{nil, nil, nil}, {[]byte{}, nil, nil}, {log, three(), nil}, {log[:10], three()[:1], nil}, {log[:9], nil, []int{0}}, {log[:1], nil, []int{0}}, {log[:29], three()[:2], []int{2}}, {log[:21], three()[:2], []int{2}}, {log[1:], nil, []int{0, 1, 2}},
		{spoilt(log, 0, 0, 1), three()[1:], []int{0}}, {spoilt(log, 2, 9, 255), three()[:2], []int{2}}, {spoilt(spoilt(log, 0, 5, 1), 2, 3, 9), three()[1:2], []int{0, 2}}, {spoilt(spoilt(spoilt(log, 0, 5, 1), 2, 3, 9), 1, 1, 128), nil, []int{0, 1, 2}},
		// A record that is right but not greater is bad, and later ones are greater than the last right one.
		{slices.Concat(log[:10], early, log[10:]), three(), []int{1}}, {slices.Concat(log[:20], same, log[20:]), three(), []int{2}}, {slices.Concat(log[:20], log[:20], log[20:]), three(), []int{2, 3}}, {slices.Concat(early, log), append(history{at(3, 0, 9, goes(1))}, three()...), nil}, {slices.Concat(late, log), history{at(65535, 255, 255, goes(1))}, []int{1, 2, 3}}, {slices.Concat(log[:10], late, log[10:]), append(three()[:1], at(65535, 255, 255, goes(1))), []int{2, 3}},
		// One that is not right itself does not count for later ones.
		{slices.Concat(spoilt(late, 0, 0, 1), log), three(), []int{0}}, {slices.Concat(log[:10], checked(255, 255, 9, 9, 0, 2, 0, 0, 5), log[10:]), three(), []int{1}}, {slices.Concat(log, log[:5]), three(), []int{3}},
	} {
		if l, bad, e := record.Salvage(c.log); !slices.Equal(l, c.l) || !slices.Equal(bad, c.bad) || e != api.OK {
			t.Error(i, l, bad, e)
		}
	}
	for _, wrong := range strangeRecords() {
		if l, bad, e := record.Salvage(slices.Concat(log[:20], wrong, log[20:])); !slices.Equal(l, three()) || !slices.Equal(bad, []int{2}) || e != api.OK {
			t.Error(wrong, l, bad, e)
		}
	}
}

// TestSalvageLong is for P13.7: a log that is too long is not looked at.
func TestSalvageLong(t *testing.T) {
	full := bytesOfAll(trials(500)...)
	if l, bad, e := record.Salvage(full); !slices.Equal(l, trials(500)) || bad != nil || e != api.OK {
		t.Error(l, bad, e)
	}
	if l, bad, e := record.Salvage(make([]byte, 5000)); l != nil || len(bad) != 500 || e != api.OK {
		t.Error(l, bad, e)
	}
	if l, bad, e := record.Salvage(full[:4999]); !slices.Equal(l, trials(499)) || !slices.Equal(bad, []int{499}) || e != api.OK {
		t.Error(l, bad, e)
	}
	for _, log := range [][]byte{append(slices.Clone(full), 1), append(slices.Clone(full), full...), make([]byte, 5001), make([]byte, 5010), make([]byte, 100000)} {
		if l, bad, e := record.Salvage(log); l != nil || bad != nil || e != api.ErrLong {
			t.Error(len(log), l, bad, e)
		}
	}
}

// TestSalvageByWords is for P13.7: logs that are nearly right, against what the chapter says record by record.
func TestSalvageByWords(t *testing.T) {
	r := dice()
	damaged := 0
	for range 20000 {
		log := anyLog(r)
		want, wantBad := salvagedByWords(log)
		l, bad, e := record.Salvage(log)
		if !slices.Equal(l, want) || !slices.Equal(bad, wantBad) || e != api.OK {
			t.Fatal(log, l, bad, e, want, wantBad)
		}
		damaged += min(len(bad), 1)
	}
	if damaged < 5000 {
		t.Error("seldom", damaged)
	}
}
