package record

import (
	"slices"
	"strings"

	"acme/api"
	"acme/exact"
	"acme/thread"
)

// validDrawing reports whether a drawing is valid.
func validDrawing(d api.RecordDrawing) bool {
	wrong := func(note string) bool { return !isNote(note) }
	return isName(d.Name) && thread.Check(d.Form) == api.OK &&
		exact.ValidSpans(-api.MaxSwapSize, api.MaxSwapSize, d.Screw, d.Nut) &&
		len(d.Notes) <= api.MaxRecordNotes && !slices.ContainsFunc(d.Notes, wrong)
}

func isName(word string) bool { return isText(word, api.MaxRecordName, 'a', 'z') }

func isNote(text string) bool { return isText(text, api.MaxRecordNote, ' ', '~') }

// isText reports whether a text has at least one byte, at most so many, and all of them from low to high.
func isText(text string, most int, low, high byte) bool {
	for i := range len(text) {
		if text[i] < low || text[i] > high {
			return false
		}
	}
	return exact.AllFrom(1, most, len(text))
}

// drawingText returns the text of a valid drawing.
func drawingText(d api.RecordDrawing) string {
	w, f := writer{}, d.Form
	w.line("drawing", d.Name)
	w.line("thread", f.Pitch, f.Left, f.Right, f.Above, f.Below, f.Starts, f.LeftHand, f.Taper)
	w.line("screw", d.Screw)
	w.line("nut", d.Nut)
	for _, note := range d.Notes {
		w.line("note", note)
	}
	return w.end("end")
}

// drawing reads a drawing, whether it is valid or not.
func (r *reader) drawing() api.RecordDrawing {
	var d api.RecordDrawing
	f := &d.Form
	r.next("drawing", &d.Name)
	r.next("thread", &f.Pitch, &f.Left, &f.Right, &f.Above, &f.Below, &f.Starts, &f.LeftHand, &f.Taper)
	r.next("screw", &d.Screw)
	r.next("nut", &d.Nut)
	for r.sees("note ") {
		// A note may have spaces itself, so it is not read word by word.
		note := strings.TrimPrefix(r.nextLine(), "note ")
		r.must(isNote(note) && len(d.Notes) < api.MaxRecordNotes)
		d.Notes = append(d.Notes, note)
	}
	r.end("end")
	return d
}
