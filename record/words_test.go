package record_test

import (
	"regexp"
	"strconv"
	"strings"

	"acme/api"
	"acme/mill"
	"acme/record"
)

// The forms of words.
const (
	integer = `(0|-?[1-9][0-9]*)`
	spanned = integer + `\.\.` + integer
)

// fits reports whether all integers of a line that has its form fit an int.
func fits(words []string) bool {
	for _, word := range words {
		if _, err := strconv.ParseInt(word, 10, 64); err != nil && word != "right" && word != "left" {
			return false
		}
	}
	return true
}

// drawingForms returns the forms of the lines that may come next, where so many lines were read, the end first.
func drawingForms(read int) []string {
	const end, note = `end ` + integer, `note [ -~]{1,40}`
	form := `thread` + strings.Repeat(" "+integer, 6) + ` (right|left) ` + integer
	switch first := []string{`drawing ([a-z]{1,12})`, form, `screw ` + spanned, `nut ` + spanned}; {
	case read < len(first):
		return []string{`[^\s\S]`, first[read]}
	case read < len(first)+8:
		return []string{end, note}
	}
	return []string{end}
}

// runForms returns those of runs.
func runForms(read int) []string {
	return []string{`end ` + strconv.Itoa(read) + ` ` + integer, `run ` + integer + ` ` + spanned + ` ` + integer + ` ` + integer}
}

// known are the forms that were needed already, since making them takes long.
var known = map[string]*regexp.Regexp{}

// wordsOf returns a line that has a form, and its words; nil if it has not.
func wordsOf(form, line string) []string {
	if known[form] == nil {
		known[form] = regexp.MustCompile(`^(?:` + form + `)$`)
	}
	return known[form].FindStringSubmatch(line)
}

// textError returns the number of the first line that is wrong, by the chapter's words, and its error.
func textError(text string, forms func(read int) []string, follows func(line, before []string) bool) (line int, e api.Errno) {
	if len(text) > 8000 {
		return 0, api.ErrLong
	}
	var before []string
	read := ""
	for i, l := range strings.SplitAfter(text, "\n") {
		body, found := strings.CutSuffix(l, "\n")
		if !found {
			return i + 1, api.ErrRecordCut
		}
		all := forms(i)
		words := wordsOf(all[0], body)
		if words != nil && fits(words[1:]) {
			return endError(text, read, l, words[len(words)-1], i+1)
		}
		words = nil
		if len(all) > 1 {
			words = wordsOf(all[1], body)
		}
		if words == nil || !strings.HasPrefix(body, "drawing") && !fits(words[1:]) || before != nil && !follows(words, before) {
			return i + 1, api.ErrForm
		}
		before = words
		read += l
	}
	return 0, api.OK
}

// endError returns the error of the end of a text, of which something was read before.
func endError(text, read, end, total string, number int) (line int, e api.Errno) {
	if total != strconv.Itoa(sum(read)) {
		return number, api.ErrRecordSum
	}
	if text != read+end {
		return number + 1, api.ErrForm
	}
	return 0, api.OK
}

// drawingError returns what is wrong with the text of a drawing. A text with the right form is that of a valid drawing just if Write writes it for some drawing, whose numbers are those of the text.
func drawingError(text string) (line int, e api.Errno) {
	line, e = textError(text, drawingForms, func(line, before []string) bool { return true })
	if e != api.OK {
		return line, e
	}
	if _, e := record.Write(drawingOf(text)); e != api.OK {
		return 0, e
	}
	return 0, api.OK
}

// numbers returns all integers of a line.
func numbers(line string) []int {
	var l []int
	for _, word := range strings.FieldsFunc(line, func(r rune) bool { return r != '-' && (r < '0' || r > '9') }) {
		n, _ := strconv.Atoi(word)
		l = append(l, n)
	}
	return l
}

// drawingOf returns the drawing of a text that has its form.
func drawingOf(text string) api.RecordDrawing {
	l := strings.Split(text, "\n")
	n, screw, nut := numbers(l[1]), numbers(l[2]), numbers(l[3])
	d := api.RecordDrawing{Name: strings.TrimPrefix(l[0], "drawing "), Screw: span(screw[0], screw[1]), Nut: span(nut[0], nut[1])}
	d.Form = api.ThreadForm{Pitch: n[0], Left: n[1], Right: n[2], Above: n[3], Below: n[4], Starts: n[5], LeftHand: strings.Contains(l[1], "left"), Taper: n[6]}
	for _, line := range l[4 : len(l)-2] {
		d.Notes = append(d.Notes, strings.TrimPrefix(line, "note "))
	}
	return d
}

// runsError returns what is wrong with the text of runs.
func runsError(text string) (line int, e api.Errno) {
	greater := func(line, before []string) bool {
		machine, _ := strconv.Atoi(line[1])
		other, _ := strconv.Atoi(before[1])
		from, _ := strconv.Atoi(line[2])
		last, _ := strconv.Atoi(before[2])
		return machine > other || machine == other && from > last
	}
	if line, e := textError(text, runForms, greater); e != api.OK {
		return line, e
	}
	return 0, mill.Check(runsIn(text))
}

// runsIn returns the runs of a text that has its form.
func runsIn(text string) []api.MillRun {
	var l []api.MillRun
	for _, line := range strings.Split(text, "\n") {
		if n := numbers(line); strings.HasPrefix(line, "run") {
			l = append(l, run(n[0], n[1], n[2], n[3], n[4]))
		}
	}
	return l
}
