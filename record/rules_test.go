package record_test

import (
	"reflect"
	"slices"
	"strings"
	"testing"

	"acme/api"
	"acme/record"
)

// both keeps a result and its error together, and trio keeps two.
func both[T any](value T, e api.Errno) any { return [2]any{value, e} }

func trio[T, U any](first T, second U, e api.Errno) any { return [3]any{first, second, e} }

// given is all that the functions are given.
type given struct {
	drawing     api.RecordDrawing
	text        string
	runs        []api.MillRun
	log         []byte
	first, then history
	rules       api.GaugeRules
	gauge, day  int
}

// answers returns the results of all functions.
func answers(g given) []any {
	return []any{
		both(record.Write(g.drawing)), trio(record.Read(g.text)), both(record.Runs(g.runs)), trio(record.ReadRuns(g.text)),
		trio(record.Log(g.first)), trio(record.Events(g.log)), trio(record.Salvage(g.log)), both(record.Merge(g.first, g.then)), both(record.Replay(g.rules, g.first, g.gauge, g.day)),
	}
}

// usual returns what all functions take.
func usual() given {
	return given{
		drawing: example(), text: exampleText, runs: works(), log: bytesOfAll(three()...),
		first: history{at(3, 1, 0, tried(200)), at(3, 2, 0, goes(0))}, then: three(), rules: plug(), gauge: 1, day: 5,
	}
}

// TestTerminates is for P1: no function panics, whatever its arguments are.
func TestTerminates(t *testing.T) {
	for _, n := range extremes() {
		for _, m := range extremes() {
			g := usual()
			did := api.GaugeEvent{Pieces: n, Master: m, Goes: n < m}
			g.drawing = api.RecordDrawing{Form: api.ThreadForm{Pitch: n, Left: m, Right: n, Above: m, Below: n, Starts: m, Taper: n}, Screw: span(n, m), Nut: span(m, n)}
			g.runs = []api.MillRun{run(n, m, n, m, n), run(m, n, m, n, m)}
			g.first, g.then = history{at(n, m, n, did)}, history{at(1, 1, 1, did), at(m, n, m, did)}
			g.gauge, g.day = n, m
			answers(g)
			g.drawing.Name, g.first, g.rules = "m", three(), api.GaugeRules{New: span(n, m), Wear: span(m, n)}
			answers(g)
			g.drawing.Form, g.gauge = metric(), 1
			answers(g)
		}
	}
	for _, text := range strangeTexts() {
		g := usual()
		g.text, g.drawing.Name, g.drawing.Notes, g.log = text, text, []string{text}, []byte(text)
		answers(g)
	}
	answers(given{})
	answers(given{first: make(history, 5000), then: make(history, 5000), runs: make([]api.MillRun, 5000), drawing: api.RecordDrawing{Name: "m", Notes: make([]string, 5000)}})
}

// strangeTexts returns texts and bytes of all kinds.
func strangeTexts() []string {
	l := []string{"", "\n", " ", "..", "end", "end ", "end \n", "end 0\n", "end 0 0\n", "run ", "run \n", "note \n", "\x00", "\xff\xfe", strings.Repeat("\n", 8000), strings.Repeat(" ", 7999) + "\n", strings.Repeat("note a\n", 1000), strings.Repeat("run 1 1..1 1 1\n", 500), strings.Repeat("x", 1000000), strings.Repeat("\x00", 4995), strings.Repeat("9", 7990) + "\n", "run " + strings.Repeat("9", 7000) + " 1..1 1 1\n"}
	r := dice()
	for range 300 {
		l = append(l, mixed(r, exampleText, "end"), mixed(r, worksText, "end 2"), string(anyLog(r)), anyText(r, 200, 0, 255))
	}
	return l
}

// TestZeroWithErrors is for P1 and R2: with an error all other results are zero, but for the number of a line, an event or a record.
func TestZeroWithErrors(t *testing.T) {
	for _, d := range badDrawings() {
		if text, e := record.Write(d); e == api.OK || text != "" {
			t.Error(d, text, e)
		}
	}
	for _, text := range strangeTexts() {
		if d, line, e := record.Read(text); (e == api.OK) == isNoDrawing(d) || e == api.OK && line != 0 {
			t.Error(text, d, line, e)
		}
		if l, line, e := record.ReadRuns(text); e != api.OK && l != nil || e == api.OK && line != 0 {
			t.Error(text, l, line, e)
		}
		if l, number, e := record.Events([]byte(text)); e != api.OK && l != nil || e == api.OK && number != 0 {
			t.Error(text, l, number, e)
		}
		if l, bad, e := record.Salvage([]byte(text)); e != api.OK && (l != nil || bad != nil) || (e == api.ErrLong) != (len(text) > 5000) {
			t.Error(text, l, bad, e)
		}
	}
}

// manyGiven returns what functions are given, right and wrong.
func manyGiven(t *testing.T) []given {
	t.Helper()
	r := dice()
	l := []given{{}, usual()}
	for _, all := range badHistories() {
		g := usual()
		g.first = all[0]
		g.log = bytesOfAll(all[0][:min(len(all[0]), 20)]...)
		l = append(l, g)
		g.first, g.then = g.then, g.first
		l = append(l, g)
	}
	for range 200 {
		g := given{drawing: anyDrawing(r), text: mixed(r, exampleText, "end"), runs: anyRuns(r), log: anyLog(r), first: anyHistory(r, 20), then: anyHistory(r, 20), rules: plug(), gauge: r.IntN(3), day: r.IntN(9)}
		g.rules.Masters = slices.Repeat(g.rules.Masters, 5)
		if r.IntN(2) == 0 {
			g.text = runsOf(t, g.runs)
		}
		l = append(l, g)
	}
	return l
}

// behind returns a list with some more behind its end, and that end.
func behind[T any](l []T, more ...T) (list, whole []T) {
	whole = append(slices.Clone(l), more...)
	return whole[:len(l)], whole
}

// TestEqualResults is for P2 and R4: equal arguments have equal results, whatever was called before, and no argument is changed, nor what lies behind its end.
func TestEqualResults(t *testing.T) {
	all := manyGiven(t)
	var once []any
	for _, g := range all {
		var notes []string
		var runs []api.MillRun
		var log []byte
		var first, then history
		var masters []api.Span
		g.drawing.Notes, notes = behind(g.drawing.Notes, "x", "y")
		g.runs, runs = behind(g.runs, run(97, 97, 97, 97, 97), run(98, 98, 98, 98, 98))
		g.log, log = behind(g.log, slices.Repeat([]byte{97}, 50)...)
		g.first, first = behind(g.first, slices.Repeat(history{at(9, 9, 9, goes(9))}, 50)...)
		g.then, then = behind(g.then, slices.Repeat(history{at(8, 8, 8, goes(8))}, 50)...)
		g.rules.Masters, masters = behind(g.rules.Masters, span(7, 7))
		before := []any{slices.Clone(notes), slices.Clone(runs), slices.Clone(log), slices.Clone(first), slices.Clone(then), slices.Clone(masters)}
		once = append(once, answers(g))
		if after := []any{notes, runs, log, first, then, masters}; !reflect.DeepEqual(before, after) {
			t.Error("an argument has changed", before, after)
		}
	}
	for i, g := range all {
		if again := answers(g); !reflect.DeepEqual(once[i], any(again)) {
			t.Error("results differ", g, again)
		}
	}
}

// spoil changes a list, and what lies behind its end.
func spoil[T any](bad T, l []T) {
	for i := range l {
		l[i] = bad
	}
	_ = append(l, bad, bad)
}

// TestNewMemory is for R4: results share no memory with arguments or with one another.
func TestNewMemory(t *testing.T) {
	g := usual()
	g.log = spoilt(g.log, 1, 0, 1)
	whole := bytesOfAll(three()...)
	results := func() []any {
		d, _, _ := record.Read(exampleText)
		runs, _, _ := record.ReadRuns(worksText)
		log, _, _ := record.Log(g.then)
		l, _, _ := record.Events(whole)
		saved, bad, _ := record.Salvage(g.log)
		merged, _ := record.Merge(g.first, g.then)
		alone, _ := record.Merge(nil, g.then)
		copies := []any{slices.Clone(d.Notes), slices.Clone(runs), slices.Clone(log), slices.Clone(l), slices.Clone(saved), slices.Clone(bad), slices.Clone(merged), slices.Clone(alone)}
		spoil("bad", d.Notes)
		spoil(run(-1, -1, -1, -1, -1), runs)
		spoil(255, log)
		spoil(-1, bad)
		for _, events := range []history{l, saved, merged, alone} {
			spoil(at(-1, -1, -1, tried(-1)), events)
		}
		return copies
	}
	want := []any{[]string{"old"}, []api.MillRun{run(1, 4, 4, 6, 3), run(2, 0, 9, 5, 3)}, bytesOfAll(three()...), three(), history{three()[0], three()[2]}, []int{1}, three(), three()}
	for range 2 {
		if got := results(); !reflect.DeepEqual(got, want) {
			t.Error("results share memory", got, want)
		}
	}
	same := usual()
	same.log = spoilt(same.log, 1, 0, 1)
	if !reflect.DeepEqual(g, same) || !slices.Equal(whole, bytesOfAll(three()...)) {
		t.Error("an argument has changed", g)
	}
}

// TestEmpty is for R3: a nil list and an empty one are the same.
func TestEmpty(t *testing.T) {
	full, none := usual(), usual()
	full.drawing.Notes, full.runs, full.log, full.first, full.then, full.rules.Masters = []string{}, []api.MillRun{}, []byte{}, history{}, history{}, []api.Span{}
	none.drawing.Notes, none.runs, none.log, none.first, none.then, none.rules.Masters = nil, nil, nil, nil, nil, nil
	first, second := answers(full), answers(none)
	for i := range first {
		if got, want := emptied(first[i]), emptied(second[i]); !reflect.DeepEqual(got, want) {
			t.Error(i, got, want)
		}
	}
}

// emptied returns results in which empty lists are nil.
func emptied(results any) any {
	v := reflect.ValueOf(results)
	l := make([]any, v.Len())
	for i := range l {
		l[i] = v.Index(i).Interface()
		if r := reflect.ValueOf(l[i]); r.Kind() == reflect.Slice && r.Len() == 0 {
			l[i] = nil
		}
	}
	return l
}
