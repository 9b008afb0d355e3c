package record_test

import (
	"math/rand/v2"
	"slices"
	"strings"
	"testing"

	"acme/api"
	"acme/record"
)

// TestReadExample is for P13.2: the chapter's example 1.
func TestReadExample(t *testing.T) {
	if d, line, e := record.Read(exampleText); !isSame(d, example()) || line != 0 || e != api.OK {
		t.Error(d, line, e)
	}
}

// TestRead is for P13.2: each value comes from its place, and each limit can be reached.
func TestRead(t *testing.T) {
	forty := strings.Repeat("~", 39) + " "
	eight := []string{"a", "b", "c", " ", "  d", "e ", forty, "end 1"}
	all := exampleLines()[:4]
	for _, note := range eight {
		all = append(all, "note "+note)
	}
	for i, c := range []struct {
		lines []string
		want  api.RecordDrawing
	}{
		{exampleLines(), example()}, {exampleLines()[:4], example(func(d *api.RecordDrawing) { d.Notes = nil })}, {all, example(func(d *api.RecordDrawing) { d.Notes = eight })},
		{with(exampleLines(), 1, "drawing abcdefghijkl"), example(func(d *api.RecordDrawing) { d.Name = "abcdefghijkl" })}, {with(exampleLines(), 1, "drawing xyz"), example(func(d *api.RecordDrawing) { d.Name = "xyz" })},
		{with(exampleLines(), 2, "thread 20001 2 3 4 5 6 left 7"), example(func(d *api.RecordDrawing) {
			d.Form = api.ThreadForm{Pitch: 20001, Left: 2, Right: 3, Above: 4, Below: 5, Starts: 6, LeftHand: true, Taper: 7}
		})},
		{with(exampleLines(), 3, "screw -10000..10000"), example(func(d *api.RecordDrawing) { d.Screw = span(-10000, 10000) })}, {with(exampleLines(), 4, "nut -7..5"), example(func(d *api.RecordDrawing) { d.Nut = span(-7, 5) })},
	} {
		if d, line, e := record.Read(closed(c.lines...)); !isSame(d, c.want) || line != 0 || e != api.OK {
			t.Error(i, d, line, e)
		}
	}
}

// wrongLines returns lines that are not as they should be, by the number of the line of the example in place of which they stand.
func wrongLines() map[int][]string {
	return map[int][]string{
		1: {"", " ", "drawing", "drawing ", "drawing  m", " drawing m", "drawing m ", "drawing m m", "Drawing m", "drawingm", "drawing M", "drawing m1", "drawing abcdefghijklm", "drawing `", "drawing {", "drawing \xff", "drawing\tm", "drawing m\r", "thread 10000 577 577 3000 3000 1 right 0", "end 0", "note old"},
		2: {
			"", "thread", "thread 10000 577 577 3000 3000 1 right", "thread 10000 577 577 3000 3000 1 right 0 0", "thread 10000 577 577 3000 3000 right 1 0", "thread 10000 577 577 3000 3000 1 0 right", "thread 10000 577 577 3000 3000 1 Right 0", "thread 10000 577 577 3000 3000 1 rightleft 0", "thread 10000 577 577 3000 3000 1  0", "thread 10000 577 577 3000 3000 1 true 0", "thread 10000 577 577 3000 3000 1 r 0",
			"thread  10000 577 577 3000 3000 1 right 0", "thread 10000  577 577 3000 3000 1 right 0", "thread 10000 577 577 3000 3000 1 right 0 ", " thread 10000 577 577 3000 3000 1 right 0", "threads 10000 577 577 3000 3000 1 right 0", "screw 10000 577 577 3000 3000 1 right 0", "thread 10000\t577 577 3000 3000 1 right 0",
			"thread +10000 577 577 3000 3000 1 right 0", "thread 010000 577 577 3000 3000 1 right 0", "thread 10000 0577 577 3000 3000 1 right 0", "thread 10000 577 x 3000 3000 1 right 0", "thread 10000 577 577 3000. 3000 1 right 0", "thread 10000 577 577 3000 3e3 1 right 0", "thread 10000 577 577 3000 3000 01 right 0", "thread 10000 577 577 3000 3000 1 right -0", "thread 10000 577 577 3000 3000 1 right 00", "thread 10000 577 577 3000 3000 1 right", "thread 10_000 577 577 3000 3000 1 right 0", "thread 0x10 577 577 3000 3000 1 right 0", "thread - 577 577 3000 3000 1 right 0", "thread --1 577 577 3000 3000 1 right 0", "thread 10000 577 577 3000 3000 1..1 right 0",
			"thread 9223372036854775808 577 577 3000 3000 1 right 0", "thread 10000 -9223372036854775809 577 3000 3000 1 right 0", "thread 10000 577 577 3000 3000 1 right 18446744073709551616", "thread 10000 577 577 3000 3000 100000000000000000000000000001 right 0",
		},
		3: {"", "screw", "screw ", "screw -60", "screw -60.-20", "screw -60...-20", "screw -60..", "screw ..-20", "screw ..", "screw -60 -20", "screw -60.. -20", "screw -60 ..-20", "screw -60..-20 ", "screw  -60..-20", " screw -60..-20", "screw -60..-20 0", "screw -60..-20..0", "screw -060..-20", "screw -60..-020", "screw +60..70", "screw -60..+20", "screw -0..0", "screw 0..-0", "screw -60..x", "screw -60,-20", "screw -9223372036854775809..0", "screw 0..9223372036854775808", "nut -60..-20", "screws -60..-20", "screw\t-60..-20"},
		4: {"", "nut", "nut 0", "nut 0.30", "nut 0..030", "nut 00..30", "nut 0..30 ", "nut  0..30", "nuts 0..30", "screw 0..30", "nut 0..30..40", "nut 0..99999999999999999999", "note old"},
		5: {"", "note", "note ", "note\told", "Note old", "notes old", " note old", "nut 0..30", "old", "end", "end ", "end x", "end  1", "end 1 ", "end 1 1", "end +1", "end 01", "end -0", "end 9223372036854775808", " end 1", "ends 1", "End 1", "end 1..1", "note old\r", "note \x1f", "note \x7f", "note a\tb", "note é", "note \xff", "note \x00", "note " + strings.Repeat("a", 41)},
	}
}

// TestReadForm is for P13.2: a line that is not as it should be is found, whether the sum is right or not, and whatever comes after it.
func TestReadForm(t *testing.T) {
	for number, all := range wrongLines() {
		for _, wrong := range all {
			l := with(exampleLines(), number, wrong)
			for i, text := range []string{closed(l...), lined(l...) + "end 5788\n", lined(l...), lined(l[:number]...), lined(l[:number]...) + "\n\n", closed(append(l, "note", "end")...)} {
				if d, line, e := record.Read(text); !isNoDrawing(d) || line != number || e != api.ErrForm {
					t.Error(i, text, d, line, e)
				}
			}
		}
	}
}

// TestReadLeftOut is for P13.2: no line may be left out but notes, be there twice, or change its place.
func TestReadLeftOut(t *testing.T) {
	l := exampleLines()
	for i, c := range []struct {
		lines []string
		line  int
	}{
		{l[1:], 1}, {slices.Concat(l[:1], l[2:]), 2}, {slices.Concat(l[:2], l[3:]), 3}, {slices.Concat(l[:3], l[4:]), 4}, {nil, 1}, {l[:1], 2}, {l[:2], 3}, {l[:3], 4},
		{slices.Concat(l[:1], l), 2}, {slices.Concat(l[:2], l[1:]), 3}, {slices.Concat(l[:3], l[2:]), 4}, {slices.Concat(l[:4], l[3:]), 5}, {slices.Concat(l, l[3:]), 6}, {slices.Concat(l, l), 6},
		{[]string{l[0], l[1], l[3], l[2], l[4]}, 3}, {[]string{l[1], l[0], l[2], l[3], l[4]}, 1}, {[]string{l[0], l[1], l[2], l[4], l[3]}, 4}, {slices.Insert(slices.Clone(l), 4, ""), 5}, {append(l, ""), 6},
	} {
		if d, line, e := record.Read(closed(c.lines...)); !isNoDrawing(d) || line != c.line || e != api.ErrForm {
			t.Error(i, d, line, e)
		}
	}
}

// TestReadNinthNote is for P13.2: the ninth note is wrong, but a text that ends before its line feed comes first.
func TestReadNinthNote(t *testing.T) {
	l := slices.Concat(exampleLines()[:4], slices.Repeat([]string{"note a"}, 9))
	if d, line, e := record.Read(closed(l...)); !isNoDrawing(d) || line != 13 || e != api.ErrForm {
		t.Error(d, line, e)
	}
	if d, line, e := record.Read(lined(l[:12]...) + "note a"); !isNoDrawing(d) || line != 13 || e != api.ErrRecordCut {
		t.Error(d, line, e)
	}
	if d, line, e := record.Read(closed(l[:12]...)); len(d.Notes) != 8 || line != 0 || e != api.OK {
		t.Error(d, line, e)
	}
}

// TestReadCut is for P13.2: a text that ends before a line feed is cut in this line, whatever the line is.
func TestReadCut(t *testing.T) {
	for length := range len(exampleText) {
		want := 1 + strings.Count(exampleText[:length], "\n")
		if d, line, e := record.Read(exampleText[:length]); !isNoDrawing(d) || line != want || e != api.ErrRecordCut {
			t.Error(length, d, line, e)
		}
	}
	l := exampleLines()
	for _, rest := range []string{"x", " ", "end", "end 1", "end 1 2 3", "note", "note \xff", "drawing", "\r", "\x00", strings.Repeat("note a", 1000)} {
		for number := range len(l) {
			if d, line, e := record.Read(lined(l[:number]...) + rest); !isNoDrawing(d) || line != number+1 || e != api.ErrRecordCut {
				t.Error(number, rest, d, line, e)
			}
		}
	}
}

// TestReadSum is for P13.2: another sum than the right one is wrong, and comes before what follows the end and before ErrArg.
func TestReadSum(t *testing.T) {
	for _, end := range []string{"0", "1", "-1", "5787", "5789", "-5788", "71309", "131042", "-59733", "57880", "578", "9223372036854775807", "-9223372036854775808"} {
		for _, first := range []string{"drawing m", "drawing n"} {
			for _, rest := range []string{"", "x", "\n", "end 5788\n"} {
				if first == "drawing n" && end == "5789" {
					continue
				}
				text := lined(with(exampleLines(), 1, first)...) + "end " + end + "\n" + rest
				if d, line, e := record.Read(text); !isNoDrawing(d) || line != 6 || e != api.ErrRecordSum {
					t.Error(text, d, line, e)
				}
			}
		}
	}
	bad := with(exampleLines(), 3, "screw 5..4")
	if d, line, e := record.Read(lined(bad...) + "end 5788\n"); !isNoDrawing(d) || line != 6 || e != api.ErrRecordSum {
		t.Error(d, line, e)
	}
}

// TestReadAfterEnd is for P13.2: nothing may follow the end, be it a line or not; this comes before ErrArg.
func TestReadAfterEnd(t *testing.T) {
	bad := closed(with(exampleLines(), 3, "screw 5..4")...)
	for _, rest := range []string{"\n", " ", "x", "x\n", "\x00", "note old\n", "end 5788\n", "end 5788", exampleText, "\r\n"} {
		for _, text := range []string{exampleText, bad} {
			if d, line, e := record.Read(text + rest); !isNoDrawing(d) || line != 7 || e != api.ErrForm {
				t.Error(text, rest, d, line, e)
			}
		}
	}
	if d, line, e := record.Read(closed(exampleLines()[:4]...) + "x"); !isNoDrawing(d) || line != 6 || e != api.ErrForm {
		t.Error(d, line, e)
	}
}

// TestReadLong is for P13.2: a text that is too long is not looked at, one that is just as long as it may be is.
func TestReadLong(t *testing.T) {
	for _, text := range []string{exampleText, "", "drawing m\n", "x\n", "\x00"} {
		long := text + strings.Repeat("x", 8000-len(text))
		if d, line, e := record.Read(long); !isNoDrawing(d) || line == 0 || e == api.OK || e == api.ErrLong {
			t.Error(text, d, line, e)
		}
		for _, more := range []string{"x", "\n", strings.Repeat("y", 50000)} {
			if d, line, e := record.Read(long + more); !isNoDrawing(d) || line != 0 || e != api.ErrLong {
				t.Error(text, d, line, e)
			}
		}
	}
}

// TestReadArg is for P13.2: a text that has its form, but is that of no valid drawing.
func TestReadArg(t *testing.T) {
	wrong := map[int][]string{
		2: {
			"thread 99 577 577 30 30 1 right 0", "thread 200001 577 577 3000 3000 1 right 0", "thread 10000 -1 577 3000 3000 1 right 0", "thread 10000 3001 0 10 10 1 right 0", "thread 10000 577 -1 3000 3000 1 left 0", "thread 10000 0 3001 10 10 1 right 0", "thread 10000 577 577 5000 3000 1 right 0", "thread 10000 577 577 -1 3000 1 right 0", "thread 10000 577 577 3000 5000 1 right 0", "thread 10000 577 577 3000 -1 1 right 0", "thread 10000 577 577 0 0 1 right 0", "thread 10000 0 0 200001 0 1 right 0",
			"thread 10000 577 577 3000 3000 0 right 0", "thread 10000 577 577 3000 3000 9 right 0", "thread 10000 577 577 3000 3000 1 right -1", "thread 10000 577 577 3000 3000 1 left 101", "thread 9223372036854775807 -9223372036854775808 9223372036854775807 9223372036854775807 -9223372036854775808 9223372036854775807 left -9223372036854775808",
		},
		3: {"screw 1..0", "screw -10001..0", "screw 0..10001", "screw -20..-60", "screw -9223372036854775808..9223372036854775807", "screw 9223372036854775807..-9223372036854775808"},
		4: {"nut 1..0", "nut -10001..0", "nut 0..10001", "nut 10001..10001", "nut -9223372036854775808..-9223372036854775808"},
	}
	for number, all := range wrong {
		for _, l := range all {
			if d, line, e := record.Read(closed(with(exampleLines(), number, l)...)); !isNoDrawing(d) || line != 0 || e != api.ErrArg {
				t.Error(l, d, line, e)
			}
		}
	}
}

// TestReadByWords is for P13.2: texts that are nearly right, against what the chapter says line by line.
func TestReadByWords(t *testing.T) {
	r := dice()
	seen := map[api.Errno]int{}
	for range 20000 {
		text := mixed(r, written(t, anyDrawing(r)), "end")
		want, wantE := drawingError(text)
		d, line, e := record.Read(text)
		if line != want || e != wantE || (e != api.OK) != isNoDrawing(d) {
			t.Fatal(text, d, line, e, want, wantE)
		}
		if e == api.OK && written(t, d) != text {
			t.Fatal(text, d)
		}
		seen[e]++
	}
	for _, e := range []api.Errno{api.OK, api.ErrArg, api.ErrForm, api.ErrRecordCut, api.ErrRecordSum} {
		if seen[e] < 100 {
			t.Error("seldom", e, seen[e])
		}
	}
}

// mixed changes a text in some place; often the sum is put right again.
func mixed(r *rand.Rand, text, end string) string {
	for range r.IntN(4) {
		text = mixedOnce(r, text)
	}
	if r.IntN(3) == 0 {
		return text
	}
	l := strings.Split(strings.TrimSuffix(text, "\n"), "\n")
	return sealed(end, l[:len(l)-1]...)
}

func mixedOnce(r *rand.Rand, text string) string {
	l := lines(text)
	number, place := r.IntN(len(l)), r.IntN(len(text)+1)
	some := anyOf(r, " ", "\n", "-", "..", ".", "0", "1", "end 5\n", "note a\n", "note ", "run 1 1..1 1 1\n", "x", "+", "\xff", "99999999999", "left", "right")
	switch r.IntN(6) {
	case 0:
		return text[:place]
	case 1:
		return text[:place] + some + text[place:]
	case 2:
		return text[:place] + some + text[min(place+len(some), len(text)):]
	case 3:
		return strings.Join(slices.Delete(l, number, number+1), "")
	case 4:
		return strings.Join(slices.Insert(l, number, l[r.IntN(len(l))]), "")
	}
	// A digit may become another one.
	digits := []byte(text)
	if place < len(text) && text[place] >= '0' && text[place] <= '9' {
		digits[place] = '0' + byte(r.IntN(10))
	}
	return string(digits)
}
