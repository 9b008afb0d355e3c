package wires_test

import (
	"math"
	"math/rand/v2"
	"slices"

	"acme/api"
)

// job is rules, sets, and readings with them.
type job struct {
	rules    api.WiresRules
	sets     []api.WiresSet
	readings []api.WiresReading
}

// change is a change of a job.
type change = func(j *job)

// example returns the rules and sets of the chapter's examples, with the readings of its example 3, changed.
func example(changes ...change) job {
	j := job{
		rules:    api.WiresRules{Angles: []api.WiresAngle{{Factor: 3000, Half: 866}}, Pitch: just(10000), Press: span(0, 2), Error: span(-1, 1)},
		sets:     []api.WiresSet{set(span(6000, 6001), span(6000, 6001), span(6000, 6001)), set(just(5800), just(5800), just(5800))},
		readings: readings(0, 102845, 1, 102240),
	}
	for _, c := range changes {
		c(&j)
	}
	return j
}

func span(low, high int) api.Span { return api.Span{Low: low, High: high} }

func just(n int) api.Span { return span(n, n) }

func set(first, second, third api.Span) api.WiresSet {
	return api.WiresSet{Wires: [3]api.Span{first, second, third}}
}

func ratio(num, den int) api.Ratio { return api.Ratio{Num: num, Den: den} }

// readings returns readings of a set and what was shown, in turn.
func readings(numbers ...int) []api.WiresReading {
	var l []api.WiresReading
	for pair := range slices.Chunk(numbers, 2) {
		l = append(l, api.WiresReading{Set: pair[0], Shown: pair[1]})
	}
	return l
}

func shows(numbers ...int) change { return func(j *job) { j.readings = readings(numbers...) } }

func angles(l ...api.WiresAngle) change { return func(j *job) { j.rules.Angles = l } }

func pitch(s api.Span) change { return func(j *job) { j.rules.Pitch = s } }

func press(s api.Span) change { return func(j *job) { j.rules.Press = s } }

func errs(s api.Span) change { return func(j *job) { j.rules.Error = s } }

func sets(l ...api.WiresSet) change { return func(j *job) { j.sets = l } }

// extremes are numbers for which careless arithmetic does not fit.
func extremes() []int {
	return []int{math.MinInt, math.MinInt + 1, -1 << 40, -1, 0, 1, 1 << 40, math.MaxInt - 1, math.MaxInt}
}

// outside returns numbers that are not from low to high.
func outside(low, high int) []int {
	l := []int{low - 1, high + 1}
	for _, n := range extremes() {
		if n < low || n > high {
			l = append(l, n)
		}
	}
	return l
}

// badSpans returns spans that are not valid from low to high, or wider than 40.
func badSpans(low, high int) []api.Span {
	l := []api.Span{span(low+1, low), span(high, high-1), span(high, low), span(low, low+41), span(high-41, high), span(low, high)}
	for _, n := range outside(low, high) {
		l = append(l, span(n, low), span(n, high), span(low, n), span(high, n), just(n))
	}
	return l
}

// copyOf returns a job that shares no memory.
func copyOf(j job) job {
	j.rules.Angles, j.sets, j.readings = slices.Clone(j.rules.Angles), slices.Clone(j.sets), slices.Clone(j.readings)
	return j
}

// dice returns a source of the same numbers each time.
func dice() *rand.Rand { return rand.New(rand.NewPCG(5, 13)) }

// within returns an integer of a span.
func within(r *rand.Rand, s api.Span) int { return s.Low + r.IntN(s.High-s.Low+1) }

// part returns a span that lies within another one.
func part(r *rand.Rand, s api.Span) api.Span {
	low := within(r, s)
	return span(low, within(r, span(low, s.High)))
}

// anyRules returns rules of few truths, with factors that leave gaps between sizes and others that do not.
func anyRules(r *rand.Rand) api.WiresRules {
	rules := api.WiresRules{Press: part(r, span(0, 3)), Error: part(r, span(-2, 2))}
	low := 100 + r.IntN(20000)
	rules.Pitch = part(r, span(low, low+2))
	factor := []int{1001, 3000, 19990}[r.IntN(3)]
	for range 1 + r.IntN(3) {
		rules.Angles = append(rules.Angles, api.WiresAngle{Factor: factor + r.IntN(11), Half: 850 + r.IntN(30)})
	}
	if r.IntN(4) == 0 {
		rules.Angles = append(rules.Angles, rules.Angles[0])
	}
	return rules
}

// anySets returns some sets of wires that are as good as equally thick.
func anySets(r *rand.Rand, count int) []api.WiresSet {
	var l []api.WiresSet
	for range count {
		var s api.WiresSet
		for i := range s.Wires {
			low := 1 + r.IntN(6000)
			s.Wires[i] = part(r, span(low, low+r.IntN(4)))
		}
		l = append(l, s)
	}
	return l
}

// wideRules returns rules of more truths than a search could go through.
func wideRules(r *rand.Rand) api.WiresRules {
	rules := api.WiresRules{Press: part(r, span(900, 940)), Error: part(r, span(-20, 20)), Pitch: part(r, span(15000, 15040))}
	for range 1 + r.IntN(api.MaxWiresAngles) {
		rules.Angles = append(rules.Angles, api.WiresAngle{Factor: 2900 + r.IntN(300), Half: 800 + r.IntN(100)})
	}
	return rules
}

func wideSets(r *rand.Rand, count int) []api.WiresSet {
	var l []api.WiresSet
	for range count {
		low := 1 + r.IntN(90000)
		l = append(l, set(part(r, span(low, low+40)), part(r, span(low, low+40)), part(r, span(low, low+40))))
	}
	return l
}

// anyTruth returns a truth of rules for each set, all of the same size, angle and pitch.
func anyTruth(r *rand.Rand, rules api.WiresRules, sets []api.WiresSet) []api.WiresTruth {
	shared := api.WiresTruth{Size: within(r, span(-90000, 200000)), Angle: r.IntN(len(rules.Angles)), Pitch: within(r, rules.Pitch)}
	var l []api.WiresTruth
	for _, s := range sets {
		truth := shared
		for i, wire := range s.Wires {
			truth.Wires[i] = within(r, wire)
		}
		truth.Press, truth.Error = within(r, rules.Press), within(r, rules.Error)
		l = append(l, truth)
	}
	return l
}

// readAll returns a reading with each set, of a truth for each.
func readAll(rules api.WiresRules, truths []api.WiresTruth) []api.WiresReading {
	var l []api.WiresReading
	for number, truth := range truths {
		l = append(l, api.WiresReading{Set: number, Shown: shown(rules, truth)})
	}
	return l
}

// anyJob returns a job of few truths, whose readings are true but for some of them.
func anyJob(r *rand.Rand) job {
	rules, sets := anyRules(r), anySets(r, 1+r.IntN(4))
	j := job{rules, sets, readAll(rules, anyTruth(r, rules, sets))}
	for i := range j.readings {
		if r.IntN(3) == 0 {
			j.readings[i].Shown += within(r, span(-20, 20))
		}
	}
	return j
}

// floor returns a / b, rounded down.
func floor(a, b int) int {
	if a%b < 0 {
		return a/b - 1
	}
	return a / b
}

// shown computes what is shown in a truth, in thousandths of thousandths of units.
func shown(r api.WiresRules, t api.WiresTruth) int {
	angle := r.Angles[t.Angle]
	const unit = 1000000
	wires := unit / 4000 * angle.Factor * (t.Wires[0] + t.Wires[1] + 2*t.Wires[2])
	return floor(unit*t.Size+wires-unit/1000*angle.Half*t.Pitch-unit*t.Press+unit*t.Error, unit)
}

// sight is an angle and a pitch, with the smallest truth of each reading for each size with which it agrees.
type sight struct{ truths []map[int]api.WiresTruth }

// search goes through all truths of readings, in ascending order.
func search(j job) []sight {
	var l []sight
	for angle := range j.rules.Angles {
		for pitch := j.rules.Pitch.Low; pitch <= j.rules.Pitch.High; pitch++ {
			var s sight
			for _, reading := range j.readings {
				s.truths = append(s.truths, truthsOf(j, reading, api.WiresTruth{Angle: angle, Pitch: pitch}))
			}
			l = append(l, s)
		}
	}
	return l
}

// truthsOf returns the smallest truth of a reading with an angle and a pitch, for each size.
func truthsOf(j job, reading api.WiresReading, t api.WiresTruth) map[int]api.WiresTruth {
	found := map[int]api.WiresTruth{}
	for wires := range allWires(j.sets[reading.Set]) {
		t.Wires = wires
		for t.Press = j.rules.Press.Low; t.Press <= j.rules.Press.High; t.Press++ {
			for t.Error = j.rules.Error.Low; t.Error <= j.rules.Error.High; t.Error++ {
				t.Size = 0
				t.Size = reading.Shown - shown(j.rules, t)
				if _, ok := found[t.Size]; !ok {
					found[t.Size] = t
				}
			}
		}
	}
	return found
}

// allWires yields all wires of a set, in ascending order.
func allWires(s api.WiresSet) func(yield func([3]int) bool) {
	return func(yield func([3]int) bool) {
		for a := s.Wires[0].Low; a <= s.Wires[0].High; a++ {
			for b := s.Wires[1].Low; b <= s.Wires[1].High; b++ {
				for c := s.Wires[2].Low; c <= s.Wires[2].High; c++ {
					if !yield([3]int{a, b, c}) {
						return
					}
				}
			}
		}
	}
}

// agreed returns the sizes with which all readings agree but for those that are left out, at one sight; not all are left out.
func (s sight) agreed(out ...int) []int {
	count := map[int]int{}
	for number, truths := range s.truths {
		if slices.Contains(out, number) {
			continue
		}
		for size := range truths {
			count[size]++
		}
	}
	var l []int
	for size, n := range count {
		if n == len(s.truths)-len(out) {
			l = append(l, size)
		}
	}
	return l
}

// sizesOf returns the sizes with which all readings agree but for those that are left out, in ascending order.
func sizesOf(sights []sight, out ...int) []int {
	var l []int
	for _, s := range sights {
		l = append(l, s.agreed(out...)...)
	}
	slices.Sort(l)
	return slices.Compact(l)
}

// spansOf returns the longest spans of integers that are in ascending order.
func spansOf(l []int) []api.Span {
	var spans []api.Span
	for i, n := range l {
		if i > 0 && n == l[i-1]+1 {
			spans[len(spans)-1].High = n
			continue
		}
		spans = append(spans, just(n))
	}
	return spans
}
