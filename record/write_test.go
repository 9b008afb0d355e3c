package record_test

import (
	"slices"
	"strings"
	"testing"

	"acme/api"
	"acme/record"
)

// TestWriteExample is for P13.1: the chapter's example 1.
func TestWriteExample(t *testing.T) {
	if text, e := record.Write(example()); text != exampleText || e != api.OK {
		t.Error(text, e)
	}
	for i, want := range []int{899, 2494, 972, 624, 799} {
		if got := sum(exampleLines()[i] + "\n"); got != want {
			t.Error(i, got, want)
		}
	}
}

// TestWrite is for P13.1: each value stands in its place, and each limit can be reached.
func TestWrite(t *testing.T) {
	forty := strings.Repeat("~", 39) + " "
	for i, c := range []struct {
		change change
		number int
		line   string
	}{
		{func(d *api.RecordDrawing) { d.Name = "z" }, 1, "drawing z"}, {func(d *api.RecordDrawing) { d.Name = "abcdefghijkl" }, 1, "drawing abcdefghijkl"}, {func(d *api.RecordDrawing) { d.Name = "drawing" }, 1, "drawing drawing"}, {func(d *api.RecordDrawing) { d.Name = "mnopqrstuvwx" }, 1, "drawing mnopqrstuvwx"}, {func(d *api.RecordDrawing) { d.Name = "yz" }, 1, "drawing yz"},
		{func(d *api.RecordDrawing) {
			d.Form = api.ThreadForm{Pitch: 20001, Left: 2, Right: 3, Above: 4, Below: 5, Starts: 6, LeftHand: true, Taper: 7}
		}, 2, "thread 20001 2 3 4 5 6 left 7"},
		{func(d *api.RecordDrawing) { d.Form.LeftHand = true }, 2, "thread 10000 577 577 3000 3000 1 left 0"},
		{func(d *api.RecordDrawing) {
			d.Form = api.ThreadForm{Pitch: 100, Above: 200000, Starts: 8, Taper: 100}
		}, 2, "thread 100 0 0 200000 0 8 right 100"},
		{func(d *api.RecordDrawing) {
			d.Form = api.ThreadForm{Pitch: 200000, Left: 3000, Right: 3000, Below: 1, Starts: 1}
		}, 2, "thread 200000 3000 3000 0 1 1 right 0"},
		{func(d *api.RecordDrawing) { d.Screw = span(-10000, 10000) }, 3, "screw -10000..10000"}, {func(d *api.RecordDrawing) { d.Screw = span(-10000, -10000) }, 3, "screw -10000..-10000"}, {func(d *api.RecordDrawing) { d.Screw = span(0, 0) }, 3, "screw 0..0"}, {func(d *api.RecordDrawing) { d.Screw = span(-5, 7) }, 3, "screw -5..7"},
		{func(d *api.RecordDrawing) { d.Nut = span(-10000, 10000) }, 4, "nut -10000..10000"}, {func(d *api.RecordDrawing) { d.Nut = span(10000, 10000) }, 4, "nut 10000..10000"}, {func(d *api.RecordDrawing) { d.Nut = span(-1, 0) }, 4, "nut -1..0"},
		{func(d *api.RecordDrawing) { d.Notes = []string{" "} }, 5, "note  "}, {func(d *api.RecordDrawing) { d.Notes = []string{"~"} }, 5, "note ~"}, {func(d *api.RecordDrawing) { d.Notes = []string{forty} }, 5, "note " + forty}, {func(d *api.RecordDrawing) { d.Notes = []string{" a  b "} }, 5, "note  a  b "}, {func(d *api.RecordDrawing) { d.Notes = []string{"end 5788"} }, 5, "note end 5788"},
	} {
		want := closed(with(exampleLines(), c.number, c.line)...)
		if text, e := record.Write(example(c.change)); text != want || e != api.OK {
			t.Error(i, text, e)
		}
	}
}

// TestWriteNotes is for P13.1: notes stand in their order, from none to eight.
func TestWriteNotes(t *testing.T) {
	notes := []string{"b", "a", "a", "note", " ", "drawing m", "8", "~"}
	for count := range 9 {
		want := exampleLines()[:4]
		for _, note := range notes[:count] {
			want = append(want, "note "+note)
		}
		text, e := record.Write(example(func(d *api.RecordDrawing) { d.Notes = notes[:count] }))
		if text != closed(want...) || e != api.OK {
			t.Error(count, text, e)
		}
	}
}

// TestWriteLongest is for P13.1: the longest drawing that there can be.
func TestWriteLongest(t *testing.T) {
	form := api.ThreadForm{Pitch: 100000, Left: 1000, Right: 1000, Above: 25000, Below: 25000, Starts: 8, LeftHand: true, Taper: 100}
	notes := slices.Repeat([]string{strings.Repeat("~", 40)}, 8)
	want := []string{"drawing zzzzzzzzzzzz", "thread 100000 1000 1000 25000 25000 8 left 100", "screw -10000..-10000", "nut -10000..10000"}
	for _, note := range notes {
		want = append(want, "note "+note)
	}
	text, e := record.Write(api.RecordDrawing{Name: "zzzzzzzzzzzz", Form: form, Screw: span(-10000, -10000), Nut: span(-10000, 10000), Notes: notes})
	if text != closed(want...) || e != api.OK {
		t.Error(text, e)
	}
}

// badDrawings returns drawings that are not valid.
func badDrawings() []api.RecordDrawing {
	l := []api.RecordDrawing{{}}
	add := func(c change) { l = append(l, example(c)) }
	for _, name := range []string{"", "abcdefghijklm", "A", "mZ", "m1", "m ", " m", "m-", "m\n", "`", "{", "\x00", "é", "m\xff", strings.Repeat("m", 5000)} {
		add(func(d *api.RecordDrawing) { d.Name = name })
	}
	for _, n := range outside(100, 200000) {
		add(func(d *api.RecordDrawing) { d.Form.Pitch = n })
	}
	for _, n := range outside(0, 3000) {
		add(func(d *api.RecordDrawing) { d.Form.Left = n })
		add(func(d *api.RecordDrawing) { d.Form.Right = n })
	}
	for _, n := range outside(0, 200000) {
		add(func(d *api.RecordDrawing) { d.Form.Above = n })
		add(func(d *api.RecordDrawing) { d.Form.Below = n })
	}
	add(func(d *api.RecordDrawing) { d.Form.Above = 5000 })
	add(func(d *api.RecordDrawing) { d.Form.Above, d.Form.Below = 0, 0 })
	add(func(d *api.RecordDrawing) { d.Form.Starts = 0 })
	add(func(d *api.RecordDrawing) { d.Form.Starts = 9 })
	add(func(d *api.RecordDrawing) { d.Form.Taper = -1 })
	add(func(d *api.RecordDrawing) { d.Form.Taper = 101 })
	for _, s := range badSizes() {
		add(func(d *api.RecordDrawing) { d.Screw = s })
		add(func(d *api.RecordDrawing) { d.Nut = s })
	}
	for _, note := range badNotes() {
		add(func(d *api.RecordDrawing) { d.Notes = []string{note} })
		add(func(d *api.RecordDrawing) { d.Notes = []string{"a", "b", "c", "d", "e", "f", "g", note} })
	}
	add(func(d *api.RecordDrawing) { d.Notes = slices.Repeat([]string{"a"}, 9) })
	add(func(d *api.RecordDrawing) { d.Notes = slices.Repeat([]string{"a"}, 5000) })
	return l
}

// badNotes returns notes that are not valid.
func badNotes() []string {
	return []string{"", strings.Repeat("a", 41), "\x1f", "a\x7f", "a\nb", "a\n", "\t", "é", "\xff", "\x00", "a\r", strings.Repeat("a", 5000)}
}

// badSizes returns spans that are not valid ones of sizes.
func badSizes() []api.Span {
	l := []api.Span{span(1, 0), span(10000, -10000)}
	for _, n := range outside(-10000, 10000) {
		l = append(l, span(n, n), span(n, 0), span(0, n), span(n, 10000), span(-10000, n))
	}
	return l
}

// TestWriteErrors is for P13.1: what is no valid drawing is not written.
func TestWriteErrors(t *testing.T) {
	for _, d := range badDrawings() {
		if text, e := record.Write(d); text != "" || e != api.ErrArg {
			t.Error(d, text, e)
		}
	}
}
