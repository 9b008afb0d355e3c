package record_test

import (
	"bytes"
	"math/rand/v2"
	"slices"
	"testing"

	"acme/api"
	"acme/record"
)

// TestDrawingOneForm is for P13.10: what is written is read as it was, and written again it is the same.
func TestDrawingOneForm(t *testing.T) {
	r := dice()
	for range 3000 {
		want := anyDrawing(r)
		text := written(t, want)
		d, line, e := record.Read(text)
		if !isSame(d, want) || line != 0 || e != api.OK {
			t.Fatal(want, text, d, line, e)
		}
		if again := written(t, d); again != text {
			t.Fatal(text, again)
		}
	}
}

// TestRunsOneForm is for P13.10.
func TestRunsOneForm(t *testing.T) {
	r := dice()
	for range 3000 {
		want := anyRuns(r)
		text := runsOf(t, want)
		slices.SortFunc(want, func(a, b api.MillRun) int {
			if a.Machine != b.Machine {
				return a.Machine - b.Machine
			}
			return a.From - b.From
		})
		l, line, e := record.ReadRuns(text)
		if !slices.Equal(l, want) || line != 0 || e != api.OK {
			t.Fatal(want, text, l, line, e)
		}
		if again := runsOf(t, l); again != text {
			t.Fatal(text, again)
		}
	}
}

// TestLogOneForm is for P13.10, and of P13.12: of a log that is not damaged Salvage returns all.
func TestLogOneForm(t *testing.T) {
	r := dice()
	for range 3000 {
		want := anyHistory(r, 60)
		log := logOf(t, want)
		l, number, e := record.Events(log)
		if !slices.Equal(l, want) || number != 0 || e != api.OK {
			t.Fatal(want, log, l, number, e)
		}
		if again := logOf(t, l); !bytes.Equal(again, log) {
			t.Fatal(log, again)
		}
		if l, bad, e := record.Salvage(log); !slices.Equal(l, want) || bad != nil || e != api.OK {
			t.Fatal(want, l, bad, e)
		}
	}
}

// TestReadIsWritten is for P13.10: texts and logs that are read without an error, though they were changed, are written as they were.
func TestReadIsWritten(t *testing.T) {
	r := dice()
	for range 5000 {
		log := anyLog(r)
		if l, _, e := record.Events(log); e == api.OK && !bytes.Equal(logOf(t, l), log) {
			t.Fatal(log, l)
		}
		text := mixed(r, written(t, anyDrawing(r)), "end")
		if d, _, e := record.Read(text); e == api.OK && written(t, d) != text {
			t.Fatal(text, d)
		}
		text = mixed(r, runsOf(t, anyRuns(r)), "end 3")
		if l, _, e := record.ReadRuns(text); e == api.OK && runsOf(t, l) != text {
			t.Fatal(text, l)
		}
	}
}

// damages calls a function with a text of which one byte was changed, for each byte and each change, and with what is left of it without some bytes at its end.
func damages(text []byte, see func(damaged []byte)) {
	for length := range len(text) {
		see(text[:length])
	}
	for place, was := range text {
		damaged := slices.Clone(text)
		for value := range 256 {
			if byte(value) != was {
				damaged[place] = byte(value)
				see(damaged)
			}
		}
	}
}

// TestDrawingDamage is for P13.11.
func TestDrawingDamage(t *testing.T) {
	accepted := func(damaged []byte) {
		if d, _, e := record.Read(string(damaged)); e == api.OK || !isNoDrawing(d) {
			t.Error("accepted", string(damaged))
		}
	}
	damages([]byte(exampleText), accepted)
	damages([]byte(written(t, example(func(d *api.RecordDrawing) { d.Notes = []string{"end 5", "note x", "1", " ", "end 1\x20"} }))), accepted)
	r := dice()
	for range 5 {
		damages([]byte(written(t, anyDrawing(r))), accepted)
	}
}

// TestRunsDamage is for P13.11.
func TestRunsDamage(t *testing.T) {
	accepted := func(damaged []byte) {
		if l, _, e := record.ReadRuns(string(damaged)); e == api.OK || l != nil {
			t.Error("accepted", string(damaged))
		}
	}
	many, _ := manyRuns()
	for _, l := range [][]api.MillRun{nil, works(), many[:12], anyRuns(dice())} {
		damages([]byte(runsOf(t, l)), accepted)
	}
}

// TestLogDamage is for P13.11: a log may lose whole records, and nothing else.
func TestLogDamage(t *testing.T) {
	r := dice()
	for _, want := range []history{three(), {at(258, 7, 0, tried(1000))}, anyHistory(r, 20), anyHistory(r, 20)} {
		log := logOf(t, want)
		damages(log, func(damaged []byte) {
			l, _, e := record.Events(damaged)
			if len(damaged) < len(log) && len(damaged)%api.RecordSize == 0 {
				if !slices.Equal(l, want[:len(damaged)/api.RecordSize]) || e != api.OK {
					t.Error(len(damaged), l, e)
				}
			} else if e == api.OK || l != nil {
				t.Error("accepted", damaged)
			}
		})
	}
}

// TestSalvaged is for P13.12: records that were changed by one byte each are found, and all others are left.
func TestSalvaged(t *testing.T) {
	r := dice()
	for range 3000 {
		all := anyHistory(r, 30)
		log := logOf(t, all)
		var want history
		var wantBad []int
		for number, v := range all {
			if r.IntN(3) > 0 {
				want = append(want, v)
				continue
			}
			log = spoilt(log, number, r.IntN(api.RecordSize), 1+r.IntN(255))
			wantBad = append(wantBad, number)
		}
		if l, bad, e := record.Salvage(log); !slices.Equal(l, want) || !slices.Equal(bad, wantBad) || e != api.OK {
			t.Fatal(all, l, bad, e)
		}
	}
}

// TestSalvagedEachByte is for P13.12: each change of each byte of a record.
func TestSalvagedEachByte(t *testing.T) {
	log := logOf(t, three())
	for place := range api.RecordSize {
		for by := 1; by < 256; by++ {
			l, bad, e := record.Salvage(spoilt(log, 1, place, by))
			if !slices.Equal(l, history{three()[0], three()[2]}) || !slices.Equal(bad, []int{1}) || e != api.OK {
				t.Error(place, by, l, bad, e)
			}
		}
	}
}

// partsOf returns some histories that have all events of one together.
func partsOf(r *rand.Rand, l history) []history {
	parts := make([]history, 1+r.IntN(4))
	for _, v := range l {
		must := r.IntN(len(parts))
		for i := range parts {
			if i == must || r.IntN(3) == 0 {
				parts[i] = append(parts[i], v)
			}
		}
	}
	return parts
}

// mergedAll merges histories, two at a time, in any order, some of them again and again.
func mergedAll(t *testing.T, r *rand.Rand, parts []history) history {
	t.Helper()
	parts = slices.Clone(parts)
	for range r.IntN(3) {
		parts = append(parts, parts[r.IntN(len(parts))])
	}
	for len(parts) > 1 {
		r.Shuffle(len(parts), func(i, k int) { parts[i], parts[k] = parts[k], parts[i] })
		both, e := record.Merge(parts[0], parts[1])
		if e != api.OK {
			t.Fatal(parts[0], parts[1], e)
		}
		parts = append(parts[2:], both)
	}
	return parts[0]
}

// TestMerged is for P13.13: in whatever order histories are merged, and however often one of them is, the same one comes out, and gauges are replayed to the same sizes.
func TestMerged(t *testing.T) {
	r := dice()
	rules := plug()
	rules.Masters = slices.Repeat(rules.Masters, 5)
	for range 1000 {
		want := anyHistory(r, 40)
		parts := partsOf(r, want)
		got := mergedAll(t, r, parts)
		if !slices.Equal(got, want) {
			t.Fatal(parts, got, want)
		}
		for number := range 2 {
			s, e := record.Replay(rules, got, number, 65535)
			if again, f := record.Replay(rules, want, number, 65535); s != again || e != f {
				t.Fatal(want, number, s, e, again, f)
			}
		}
	}
}

// TestOtherGauges is for P13.13: events of one gauge do not matter for another one, nor do later ones.
func TestOtherGauges(t *testing.T) {
	r := dice()
	rules := plug()
	rules.Masters = slices.Repeat(rules.Masters, 5)
	for range 1000 {
		all := anyHistory(r, 40)
		number, day := r.IntN(2), anyOf(r, 0, 2, 4, 65535)
		var own, more history
		for _, v := range all {
			switch {
			case v.Gauge == number && v.Day <= day:
				own, more = append(own, v), append(more, v)
			case v.Event.Pieces > 0:
				v.Event = anyDeed(r)
				more = append(more, v)
			}
		}
		s, e := record.Replay(rules, all, number, day)
		for _, l := range []history{own, more} {
			if got, f := record.Replay(rules, l, number, day); got != s || f != e {
				t.Fatal(all, l, number, day, s, e, got, f)
			}
		}
	}
}
