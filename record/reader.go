package record

import (
	"strings"

	"acme/api"
)

// reader reads a text line by line, and leaves it at the first wrong line by a panic.
type reader struct {
	text   string
	line   int // the number of the line that was read last
	before int // how many bytes are before this line
	read   int // how many bytes are read
}

// wrongLine is the number of a line that is wrong, and its error.
type wrongLine struct {
	number int
	e      api.Errno
}

// readText reads a text as read does, and returns the number of the first wrong line, and its error.
func readText(text string, read func(r *reader)) (line int, e api.Errno) {
	if len(text) > api.MaxRecordText {
		return 0, api.ErrLong
	}
	defer func() {
		if wrong, ok := recover().(wrongLine); ok {
			line, e = wrong.number, wrong.e
		}
	}()
	read(&reader{text: text})
	return 0, api.OK
}

// fail leaves the text with an error of this line.
func (r *reader) fail(e api.Errno) { panic(wrongLine{r.line, e}) }

// must leaves the text unless this line is as it should be.
func (r *reader) must(right bool) {
	if !right {
		r.fail(api.ErrForm)
	}
}

// sees reports whether the next line begins so.
func (r *reader) sees(words string) bool {
	return strings.HasPrefix(r.text[r.read:], words)
}

// nextLine reads a line and returns it without its line feed.
func (r *reader) nextLine() string {
	r.line++
	r.before = r.read
	line, _, found := strings.Cut(r.text[r.read:], "\n")
	if !found {
		r.fail(api.ErrRecordCut)
	}
	r.read += len(line) + 1
	return line
}

// next reads a line of words into places.
func (r *reader) next(places ...any) {
	words := strings.Split(r.nextLine(), " ")
	r.must(len(words) == len(places))
	for number, word := range words {
		r.must(take(places[number], word))
	}
}

// end reads the last line, whose last word is the sum.
func (r *reader) end(places ...any) {
	sum := 0
	r.next(append(places, &sum)...)
	if sum != sumOf(r.text[:r.before]) {
		r.fail(api.ErrRecordSum)
	}
	if r.read < len(r.text) {
		r.line++
		r.fail(api.ErrForm)
	}
}
