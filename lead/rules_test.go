package lead_test

import (
	"math"
	"reflect"
	"slices"
	"testing"

	"acme/api"
	"acme/lead"
)

// both keeps a result and its error together.
func both[T any](value T, e api.Errno) any { return [2]any{value, e} }

func split(turns, drunk []int, e api.Errno) any { return [3]any{turns, drunk, e} }

// asked is all that is asked of a screw.
type asked struct {
	at, from, to, limit, many, angles int
	way, errors                       []int
	reads                             []api.LeadRead
}

// usual returns what all screws that are valid can be asked.
func usual() asked {
	return asked{at: 1, to: 1, limit: 9, many: 3, angles: 2, way: []int{0, 1, 1, 0}, errors: []int{0, 6, 4, 8, 4}, reads: reads(span(100, 101), span(107, 108))}
}

// allAnswers returns the results of all functions.
func allAnswers(j job, a asked) []any {
	return []any{
		lead.Check(j.screw), both(lead.Error(j.screw, j.notches, a.at)), both(lead.Travel(j.screw, j.notches, a.way)), both(lead.Worst(j.screw, j.notches, a.from, a.to)),
		both(lead.Cut(j.screw, a.limit)), both(lead.Least(j.screw, a.many)), split(lead.Split(a.errors, a.angles)), both(lead.Lash(j.screw, a.reads)),
	}
}

// TestTerminates is for P1: no function panics, whatever its arguments are.
func TestTerminates(t *testing.T) {
	for _, n := range extremes() {
		for _, m := range extremes() {
			s := span(n, m)
			for _, j := range []job{
				example(), example(notched(4, -5)), example(turns(s, s)), example(turns(just(0), s)), example(drunk(n, m)), example(drunk(0, n, m)), example(lash(s)),
				example(notched(n, m)), example(notched(0, m)), example(notched(n, 0)), example(notched(n, n, m, m)), {}, {notches: notches(n, m)},
			} {
				for _, a := range []asked{
					usual(), {at: n, from: n, to: m, limit: n, many: m, angles: n, way: []int{n, m}, errors: []int{n, m}, reads: reads(s, s)},
					{from: m, to: 4, limit: m, many: n, angles: 1, way: []int{0, n}, errors: []int{n, m}, reads: reads(s, just(0))},
					{from: 4, to: m, angles: 2, way: []int{n}, errors: []int{0, n, 0}, reads: reads(just(0), s)}, {angles: m},
				} {
					allAnswers(j, a)
				}
			}
		}
	}
}

// asks returns what screws are asked, right and wrong.
func asks() []asked {
	wrong := usual()
	wrong.at, wrong.from, wrong.limit, wrong.many, wrong.angles, wrong.way, wrong.reads = -1, 2, -1, -1, 3, []int{-1}, reads(just(0), just(-1))
	return []asked{usual(), wrong, {}}
}

// copyOfAsked returns what is asked in new memory.
func copyOfAsked(a asked) asked {
	a.way, a.errors, a.reads = slices.Clone(a.way), slices.Clone(a.errors), slices.Clone(a.reads)
	return a
}

// longer returns a job and what is asked of it, with further elements behind the ends of all lists.
func longer(j job, a asked) (job, asked) {
	j.screw.Turns = append(slices.Clone(j.screw.Turns), just(97), just(98))
	j.screw.Drunk = append(slices.Clone(j.screw.Drunk), 97, 98)
	j.notches = append(slices.Clone(j.notches), notches(97, 98, 99, 98)...)
	a.way, a.errors = append(slices.Clone(a.way), 97, 98), append(slices.Clone(a.errors), 97, 98)
	a.reads = append(slices.Clone(a.reads), reads(just(97), just(98))...)
	return j, a
}

// TestEqualResults is for P2 and R4: equal arguments have equal results, whatever was called before, and no argument is changed, nor what lies behind its end.
func TestEqualResults(t *testing.T) {
	all := slices.Concat(goodJobs(), longScrews(), badScrews()[:20], longNotches(), badNotches())
	r := dice()
	for range 50 {
		all = append(all, anyJob(r))
	}
	var once [][]any
	for _, j := range all {
		for _, a := range asks() {
			behind, more := longer(j, a)
			before, moreBefore := copyOf(behind), copyOfAsked(more)
			part, less := behind, more
			part.screw.Turns, part.screw.Drunk, part.notches = part.screw.Turns[:len(j.screw.Turns)], part.screw.Drunk[:len(j.screw.Drunk)], part.notches[:len(j.notches)]
			less.way, less.errors, less.reads = less.way[:len(a.way)], less.errors[:len(a.errors)], less.reads[:len(a.reads)]
			once = append(once, allAnswers(part, less))
			if !reflect.DeepEqual(before, behind) || !reflect.DeepEqual(moreBefore, more) {
				t.Error("an argument has changed", before, behind, moreBefore, more)
			}
		}
	}
	for i, j := range all {
		for k, a := range asks() {
			if again := allAnswers(j, a); !reflect.DeepEqual(once[i*len(asks())+k], again) {
				t.Error("results differ", j, a, again)
			}
		}
	}
}

// TestNewMemory is for R4: a result shares memory neither with an argument nor with another result.
func TestNewMemory(t *testing.T) {
	j, errors, way := example(), []int{0, 6, 4, 8, 4}, []int{0, 4, 8, 4}
	before := copyOf(j)
	for range 2 {
		travelled, _ := lead.Travel(j.screw, j.notches, way)
		cut, _ := lead.Cut(j.screw, 6)
		turns, drunk, _ := lead.Split(errors, 2)
		if !slices.Equal(travelled, []api.Span{span(10, 12), span(-16, -10), span(15, 24)}) || !slices.Equal(cut, notches(4, -6, 7, 0)) || !slices.Equal(turns, []int{0, 4, 4}) || !slices.Equal(drunk, []int{0, 4}) {
			t.Error(travelled, cut, turns, drunk)
		}
		travelled[0], cut[0], turns[0], turns[1] = span(math.MinInt, math.MaxInt), api.LeadNotch{From: -1}, 98, 98
		if !slices.Equal(drunk, []int{0, 4}) {
			t.Error("results share memory", drunk)
		}
		_, drunk[1] = append(turns, 97), 99
	}
	if !reflect.DeepEqual(before, j) || !slices.Equal(errors, []int{0, 6, 4, 8, 4}) || !slices.Equal(way, []int{0, 4, 8, 4}) {
		t.Error("an argument has changed", j, errors, way)
	}
}

// TestEmpty is for R3: a nil list and an empty one are the same.
func TestEmpty(t *testing.T) {
	empty := job{api.LeadScrew{Turns: []api.Span{}, Drunk: []int{}}, []api.LeadNotch{}}
	nothing := asked{way: []int{}, errors: []int{}, reads: []api.LeadRead{}, angles: 1}
	if got, want := allAnswers(empty, nothing), allAnswers(job{}, asked{angles: 1}); !reflect.DeepEqual(got, want) {
		t.Error(got, want)
	}
	j := example()
	j.notches = []api.LeadNotch{}
	if got, want := allAnswers(j, nothing), allAnswers(example(), asked{angles: 1}); !reflect.DeepEqual(got, want) {
		t.Error(got, want)
	}
}

// fullJob returns a job with as much as there may be, whose errors are as great as they can be.
func fullJob() job {
	j := example(long(api.MaxLeadTurns, api.MaxLeadAngles), manyNotches(api.MaxLeadNotches), lash(span(0, api.MaxLeadError)))
	for i := range j.screw.Turns {
		j.screw.Turns[i] = span(-api.MaxLeadError+i%2, api.MaxLeadError-i%3)
	}
	for angle := 1; angle < api.MaxLeadAngles; angle++ {
		j.screw.Drunk[angle] = api.MaxLeadError - 2*api.MaxLeadError*(angle%2)
	}
	for i := range j.notches {
		j.notches[i] = api.LeadNotch{From: 23 * i, Add: api.MaxLeadCut - 2*api.MaxLeadCut*(i%2)}
	}
	return j
}

// TestFull is for R7 and P1: as much as there may be.
func TestFull(t *testing.T) {
	j := fullJob()
	a := asked{at: last(j), from: last(j) - api.MaxLeadWay, to: last(j), limit: api.MaxLeadLimit, many: api.MaxLeadNotches, angles: api.MaxLeadAngles, errors: make([]int, last(j)+1)}
	for i := range api.MaxLeadWay {
		a.way = append(a.way, last(j)*(i%2))
	}
	a.reads = slices.Repeat(reads(span(-api.MaxLength, api.MaxLength), just(0)), api.MaxLeadReads)
	for i, got := range allAnswers(j, a)[1:] {
		if l := reflect.ValueOf(got); l.Index(l.Len()-1).Interface() != api.OK {
			t.Error(i, got)
		}
	}
	// The nut is moved by 20000 first and by -20000 at last; from above the backlash is added.
	if got, e := lead.Travel(j.screw, j.notches, []int{0, last(j), 0}); !slices.Equal(got, []api.Span{span(-59999, -20001), span(20001, 69999)}) || e != api.OK {
		t.Error(got, e)
	}
}
