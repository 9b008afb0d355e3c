package record_test

import (
	"cmp"
	"math"
	"math/rand/v2"
	"slices"
	"strconv"
	"strings"
	"testing"

	"acme/api"
	"acme/record"
)

func span(low, high int) api.Span { return api.Span{Low: low, High: high} }

// metric returns the form of chapter 1's examples.
func metric() api.ThreadForm {
	return api.ThreadForm{Pitch: 10000, Left: 577, Right: 577, Above: 3000, Below: 3000, Starts: 1}
}

// change is a change of a drawing.
type change = func(d *api.RecordDrawing)

// example returns the drawing of the chapter's example 1, changed.
func example(changes ...change) api.RecordDrawing {
	d := api.RecordDrawing{Name: "m", Form: metric(), Screw: span(-60, -20), Nut: span(0, 30), Notes: []string{"old"}}
	for _, c := range changes {
		c(&d)
	}
	return d
}

// exampleText is the text of the example.
const exampleText = "drawing m\nthread 10000 577 577 3000 3000 1 right 0\nscrew -60..-20\nnut 0..30\nnote old\nend 5788\n"

// exampleLines returns the lines of the example but the last one.
func exampleLines() []string {
	return []string{"drawing m", "thread 10000 577 577 3000 3000 1 right 0", "screw -60..-20", "nut 0..30", "note old"}
}

// with returns lines of which one (from 1 on) is another one.
func with(lines []string, number int, line string) []string {
	l := slices.Clone(lines)
	l[number-1] = line
	return l
}

// lined returns the text of lines.
func lined(lines ...string) string {
	text := ""
	for _, line := range lines {
		text += line + "\n"
	}
	return text
}

// sum returns the sum of a text by the chapter's words.
func sum(text string) int {
	total := 0
	for _, b := range []byte(text) {
		total = (total + int(b)) % 65521
	}
	return total
}

// sealed returns the text of lines and of an end with the right sum, which these words come before.
func sealed(end string, lines ...string) string {
	text := lined(lines...)
	return text + end + " " + strconv.Itoa(sum(text)) + "\n"
}

// closed returns the text of a drawing's lines, with its end.
func closed(lines ...string) string { return sealed("end", lines...) }

// counted returns the text of lines of runs, with its end.
func counted(lines ...string) string { return sealed("end "+strconv.Itoa(len(lines)), lines...) }

func run(machine, from, to, coil, die int) api.MillRun {
	return api.MillRun{Machine: machine, From: from, To: to, Coil: coil, Die: die}
}

// works returns the runs of the chapter's example 2.
func works() []api.MillRun { return []api.MillRun{run(2, 0, 9, 5, 3), run(1, 4, 4, 6, 3)} }

// worksText is the text of these runs, and worksLines are its lines but the last one.
const worksText = "run 1 4..4 6 3\nrun 2 0..9 5 3\nend 2 1659\n"

func worksLines() []string { return []string{"run 1 4..4 6 3", "run 2 0..9 5 3"} }

// shifts returns so many runs, one behind the other.
func shifts(count int) []api.MillRun {
	var l []api.MillRun
	for number := range count {
		l = append(l, run(1, 10*number, 10*number+9, number, number))
	}
	return l
}

// at returns an event of a day, a gauge and a number.
func at(day, gauge, number int, did api.GaugeEvent) api.RecordEvent {
	return api.RecordEvent{Day: day, Gauge: gauge, Number: number, Event: did}
}

func tried(pieces int) api.GaugeEvent {
	return api.GaugeEvent{Pieces: pieces, Master: api.GaugeNone}
}

func goes(master int) api.GaugeEvent { return api.GaugeEvent{Master: master, Goes: true} }

func stays(master int) api.GaugeEvent { return api.GaugeEvent{Master: master} }

// history is a list of events.
type history = []api.RecordEvent

// trials returns a history of so many events, one on each day, of one gauge.
func trials(count int) history {
	var l history
	for day := range count {
		l = append(l, at(day, 7, 0, tried(1+day)))
	}
	return l
}

// three returns a short history of two gauges.
func three() history {
	return history{at(3, 1, 0, tried(200)), at(3, 2, 0, goes(0)), at(5, 1, 4, stays(9))}
}

// bytesOf returns the record of an event by the chapter's words.
func bytesOf(v api.RecordEvent) []byte {
	master, goes := 0, 0
	if v.Event.Master != -1 {
		master = v.Event.Master + 1
	}
	if v.Event.Goes {
		goes = 1
	}
	numbers := []int{v.Day / 256, v.Day % 256, v.Gauge, v.Number, master, goes, v.Event.Pieces / 65536, v.Event.Pieces / 256 % 256, v.Event.Pieces % 256}
	return checked(numbers...)
}

// checked returns nine bytes and their check.
func checked(numbers ...int) []byte {
	var b []byte
	total := 0
	for i, factor := range []int{1, 3, 5, 7, 9, 11, 13, 15, 17} {
		b = append(b, byte(numbers[i]))
		total += factor * numbers[i]
	}
	return append(b, byte(total%256))
}

// bytesOfAll returns the log of events, whether they are a history or not.
func bytesOfAll(l ...api.RecordEvent) []byte {
	var log []byte
	for _, v := range l {
		log = append(log, bytesOf(v)...)
	}
	return log
}

// spoilt returns a log of which one byte of one record is greater by some number, modulo 256.
func spoilt(log []byte, number, place, by int) []byte {
	l := slices.Clone(log)
	l[number*api.RecordSize+place] += byte(by)
	return l
}

// isEvent reports by the chapter's words whether an event is valid.
func isEvent(v api.RecordEvent) bool {
	if v.Day < 0 || v.Day > 65535 || v.Gauge < 0 || v.Gauge > 255 || v.Number < 0 || v.Number > 255 {
		return false
	}
	did := v.Event
	if did.Master == -1 {
		return did.Pieces >= 1 && did.Pieces <= 100000 && !did.Goes
	}
	return did.Master >= 0 && did.Master <= 9 && did.Pieces == 0
}

// isAfter reports by the chapter's words whether an event is greater than another one.
func isAfter(v, before api.RecordEvent) bool {
	if v.Day != before.Day {
		return v.Day > before.Day
	}
	if v.Gauge != before.Gauge {
		return v.Gauge > before.Gauge
	}
	return v.Number > before.Number
}

// extremes are numbers for which careless arithmetic does not fit.
func extremes() []int {
	return []int{math.MinInt, math.MinInt + 1, -1 << 40, -1, 0, 1, 1 << 40, math.MaxInt - 1, math.MaxInt}
}

// outside returns numbers that are not from low to high, some of which are equal to others modulo a power of two.
func outside(low, high int) []int {
	l := []int{low - 1, high + 1}
	for _, n := range append(extremes(), low+256, low-256, low+65536, low+1<<24, low+1<<32) {
		if n < low || n > high {
			l = append(l, n)
		}
	}
	return l
}

// wrongEvents returns events that are not as they should be.
func wrongEvents() []api.RecordEvent {
	var l []api.RecordEvent
	for _, n := range outside(0, 65535) {
		l = append(l, at(n, 1, 1, tried(5)))
	}
	for _, n := range outside(0, 255) {
		l = append(l, at(9, n, 1, tried(5)), at(9, 1, n, goes(0)))
	}
	for _, n := range outside(1, 100000) {
		l = append(l, at(9, 1, 1, tried(n)))
	}
	for _, n := range outside(-1, 9) {
		l = append(l, at(9, 1, 1, goes(n)), at(9, 1, 1, stays(n)), at(9, 1, 1, api.GaugeEvent{Master: n, Pieces: 5}))
	}
	for _, n := range []int{1, -1, 100000, 1 << 24, 1 << 32} {
		l = append(l, at(9, 1, 1, api.GaugeEvent{Master: 0, Pieces: n}), at(9, 1, 1, api.GaugeEvent{Master: 9, Pieces: n, Goes: true}))
	}
	return append(l, at(9, 1, 1, api.GaugeEvent{Pieces: 5, Master: -1, Goes: true}), at(9, 1, 1, api.GaugeEvent{Master: -1, Goes: true}))
}

// dice returns a source of the same numbers each time.
func dice() *rand.Rand { return rand.New(rand.NewPCG(13, 14)) }

// anyOf returns one of some values.
func anyOf[T any](r *rand.Rand, values ...T) T { return values[r.IntN(len(values))] }

// anySpan returns a span that is valid from low to high.
func anySpan(r *rand.Rand, low, high int) api.Span {
	a, b := low+r.IntN(high-low+1), low+r.IntN(high-low+1)
	return span(min(a, b), max(a, b))
}

// anyText returns a text of up to so many bytes, and at least one, from low to high.
func anyText(r *rand.Rand, most int, low, high byte) string {
	b := make([]byte, 1+r.IntN(most))
	for i := range b {
		b[i] = low + byte(r.IntN(int(high-low)+1))
	}
	return string(b)
}

// anyDrawing returns a valid drawing.
func anyDrawing(r *rand.Rand) api.RecordDrawing {
	d := api.RecordDrawing{Name: anyText(r, 12, 'a', 'z'), Screw: anySpan(r, -10000, 10000), Nut: anySpan(r, -10000, 10000)}
	d.Form = api.ThreadForm{Pitch: 100 + r.IntN(199901), Left: r.IntN(3001), Right: r.IntN(3001), Starts: 1 + r.IntN(8), LeftHand: r.IntN(2) == 0, Taper: r.IntN(101)}
	reach := min(200000, 500*d.Form.Pitch/max(1, d.Form.Left+d.Form.Right))
	d.Form.Above, d.Form.Below = 1+r.IntN(max(1, reach)), r.IntN(reach+1)
	for range r.IntN(9) {
		d.Notes = append(d.Notes, anyText(r, anyOf(r, 1, 3, 40), ' ', '~'))
	}
	return d
}

// anyRuns returns valid runs, in no order.
func anyRuns(r *rand.Rand) []api.MillRun {
	var l []api.MillRun
	apart := anyOf(r, 1, 7, 300)
	for machine := range 4 {
		from := r.IntN(20)
		for len(l) < 60 && r.IntN(5) > 0 {
			to := from + r.IntN(anyOf(r, 1, 5, 2000))
			l = append(l, run(machine*apart, from, to, r.IntN(1001), r.IntN(20)))
			from = to + 1 + r.IntN(3)
		}
	}
	r.Shuffle(len(l), func(i, k int) { l[i], l[k] = l[k], l[i] })
	return l
}

// anyDeed returns what a gauge did.
func anyDeed(r *rand.Rand) api.GaugeEvent {
	return anyOf(r, tried(1+r.IntN(100000)), tried(1+r.IntN(10)), goes(r.IntN(10)), stays(r.IntN(10)))
}

// anyHistory returns a valid history of up to so many events.
func anyHistory(r *rand.Rand, most int) history {
	all := map[[3]int]api.GaugeEvent{}
	days, gauges := anyOf(r, 5, 300, 65536), anyOf(r, 2, 256)
	for range r.IntN(most + 1) {
		all[[3]int{r.IntN(days), r.IntN(gauges), r.IntN(gauges)}] = anyDeed(r)
	}
	var l history
	for key, did := range all {
		l = append(l, at(key[0], key[1], key[2], did))
	}
	slices.SortFunc(l, func(a, b api.RecordEvent) int {
		return cmp.Or(a.Day-b.Day, a.Gauge-b.Gauge, a.Number-b.Number)
	})
	return l
}

// written returns the text of a drawing that must be valid.
func written(t *testing.T, d api.RecordDrawing) string {
	t.Helper()
	text, e := record.Write(d)
	if e != api.OK {
		t.Fatal(d, e)
	}
	return text
}

// runsOf returns the text of runs that must be valid.
func runsOf(t *testing.T, l []api.MillRun) string {
	t.Helper()
	text, e := record.Runs(l)
	if e != api.OK {
		t.Fatal(l, e)
	}
	return text
}

// logOf returns the log of a history that must be valid.
func logOf(t *testing.T, l history) []byte {
	t.Helper()
	log, number, e := record.Log(l)
	if number != 0 || e != api.OK {
		t.Fatal(l, number, e)
	}
	return log
}

// isSame reports whether two drawings are the same.
func isSame(d, o api.RecordDrawing) bool {
	return d.Name == o.Name && d.Form == o.Form && d.Screw == o.Screw && d.Nut == o.Nut && slices.Equal(d.Notes, o.Notes)
}

// isNoDrawing reports whether a drawing is the zero value.
func isNoDrawing(d api.RecordDrawing) bool { return isSame(d, api.RecordDrawing{}) && d.Notes == nil }

// lines returns the lines of a text, with their line feeds.
func lines(text string) []string { return strings.SplitAfter(text, "\n") }
