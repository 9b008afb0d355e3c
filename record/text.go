package record

import (
	"strconv"
	"strings"

	"acme/api"
)

// sumOf returns the sum of lines.
func sumOf(lines string) int {
	sum := 0
	for i := range len(lines) {
		sum += int(lines[i])
	}
	return sum % 65521
}

// writer writes a text line by line.
type writer struct{ strings.Builder }

// line writes a line of words.
func (w *writer) line(words ...any) {
	for number, word := range words {
		if number > 0 {
			w.WriteByte(' ')
		}
		w.WriteString(spelled(word))
	}
	w.WriteByte('\n')
}

// end writes the last line, whose last word is the sum, and returns the text.
func (w *writer) end(words ...any) string {
	w.line(append(words, sumOf(w.String()))...)
	return w.String()
}

// spelled returns a word as it is written; a bool says whether a hand is the left one.
func spelled(word any) string {
	switch value := word.(type) {
	case string:
		return value
	case int:
		return strconv.Itoa(value)
	case bool:
		if value {
			return "left"
		}
		return "right"
	case api.Span:
		return spelled(value.Low) + ".." + spelled(value.High)
	}
	return ""
}

// take reads a word into the place that a pointer is to, and reports whether it can stand there. A word that is no place must be written as it is.
func take(place any, word string) (right bool) {
	switch to := place.(type) {
	case *string:
		*to = word
		return isName(word)
	case *int:
		*to, right = integer(word)
		return right
	case *bool:
		*to = word == spelled(true)
		return word == spelled(*to)
	case *api.Span:
		low, high, _ := strings.Cut(word, "..")
		return take(&to.Low, low) && take(&to.High, high)
	}
	return word == spelled(place)
}

// integer returns the integer that a word is, if it is written as it should be.
func integer(word string) (n int, right bool) {
	n, err := strconv.Atoi(word)
	// Atoi takes plus signs and leading zeros, too.
	return n, err == nil && strconv.Itoa(n) == word
}
