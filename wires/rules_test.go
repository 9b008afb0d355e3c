package wires_test

import (
	"math"
	"reflect"
	"slices"
	"testing"

	"acme/api"
	"acme/wires"
)

// both keeps a result and its error together.
func both[T any](value T, e api.Errno) any { return [2]any{value, e} }

func ends(low, high []api.WiresTruth, e api.Errno) any { return [3]any{low, high, e} }

func seat(touch, top api.Ratio, seats bool, e api.Errno) any { return [4]any{touch, top, seats, e} }

// allAnswers returns the results of all functions.
func allAnswers(j job, t api.WiresTruth) []any {
	var s api.WiresSet
	if len(j.sets) > 0 {
		s = j.sets[0]
	}
	l := []any{
		wires.Check(j.rules, j.sets), both(wires.Shows(j.rules, s, t)), both(wires.Sizes(j.rules, j.sets, j.readings)),
		ends(wires.Ends(j.rules, j.sets, j.readings)), both(wires.Wrong(j.rules, j.sets, j.readings)),
		both(wires.Width(j.rules, s)), both(wires.Best(j.rules, j.sets)),
	}
	for _, angle := range j.rules.Angles {
		l = append(l, seat(wires.Seat(form(0, 0), angle, s.Wires[0].Low)))
	}
	return l
}

// TestTerminates is for P1: no function panics, whatever its arguments are.
func TestTerminates(t *testing.T) {
	for _, n := range extremes() {
		for _, m := range extremes() {
			s, angle := span(n, m), api.WiresAngle{Factor: n, Half: m}
			one := api.WiresTruth{Size: n, Angle: m, Pitch: n, Wires: [3]int{m, n, m}, Press: n, Error: m}
			for _, j := range []job{
				example(), example(pitch(s)), example(press(s)), example(errs(s)), example(angles(angle)), example(sets(set(s, s, s))),
				example(shows(n, m)), example(shows(0, n, 1, m)), example(shows(1, n, m, 0)), example(sets()),
				{rules: api.WiresRules{Angles: []api.WiresAngle{angle, angle}, Pitch: s, Press: s, Error: s}, sets: []api.WiresSet{set(s, s, s)}, readings: readings(n, m, m, n)},
			} {
				for _, truth := range []api.WiresTruth{one, {}, truth(n, [3]int{6000, 6000, 6000}, 0, 0), ofSize(93505, n, m, trio(6000, 0, 0)), ofSize(93505, 0, 10000, trio(n, n, m))} {
					allAnswers(j, truth)
				}
			}
			wires.Seat(api.ThreadForm{Pitch: n, Left: m, Right: n, Above: m, Below: n, Starts: m, Taper: n}, angle, n)
			wires.Seat(form(0, 0), angle, m)
			wires.Seat(form(0, 0), usualAngle(), m)
		}
	}
}

// TestEqualResults is for P2 and R4: equal arguments have equal results, whatever was called before, and no argument is changed, nor what lies behind its end.
func TestEqualResults(t *testing.T) {
	all := slices.Concat(goodJobs(), longJobs(), badRules()[:20], nowhere(), jobs(50), []job{sixReadings()})
	var once [][]any
	for _, j := range all {
		behind := copyOf(j)
		behind.rules.Angles = append(behind.rules.Angles, api.WiresAngle{Factor: 7, Half: 8})
		behind.sets = append(behind.sets, set(just(7), just(8), just(9)))
		behind.readings = append(behind.readings, api.WiresReading{Set: 98, Shown: 97})
		before := copyOf(behind)
		part := behind
		part.rules.Angles, part.sets, part.readings = part.rules.Angles[:len(j.rules.Angles)], part.sets[:len(j.sets)], part.readings[:len(j.readings)]
		once = append(once, allAnswers(part, truth(93505, [3]int{6000, 6000, 6000}, 0, 0)))
		if !reflect.DeepEqual(before, behind) {
			t.Error("an argument has changed", before, behind)
		}
	}
	for i, j := range all {
		if again := allAnswers(j, truth(93505, [3]int{6000, 6000, 6000}, 0, 0)); !reflect.DeepEqual(once[i], again) {
			t.Error("results differ", j, once[i], again)
		}
	}
}

// TestNewMemory is for R4: a result shares memory neither with an argument nor with another result.
func TestNewMemory(t *testing.T) {
	j := example()
	before := copyOf(j)
	sizes, _ := wires.Sizes(j.rules, j.sets, j.readings)
	low, high, _ := wires.Ends(j.rules, j.sets, j.readings)
	sizes[0], low[0] = span(1, 2), api.WiresTruth{}
	if want := ofSize(93503, 0, 10000, trio(5800, 2, -1)); high[1] != want || high[0].Size != 93503 || low[1].Size != 93501 {
		t.Error(low, high)
	}
	many := example(sameSets(10), shows(0, 0, 1, 10, 2, 20))
	out, _ := wires.Wrong(many.rules, many.sets, many.readings)
	for i := range out {
		_ = append(out[i], 98)
		out[i][0] = math.MinInt
		if i+1 < len(out) && !slices.Equal(out[i+1], [][]int{{0, 2}, {1, 2}}[i]) {
			t.Error(i, out)
		}
	}
	if again, e := wires.Wrong(many.rules, many.sets, many.readings); !equalLists(again, [][]int{{0, 1}, {0, 2}, {1, 2}}) || e != api.OK {
		t.Error(again, e)
	}
	if again, e := wires.Sizes(j.rules, j.sets, j.readings); !slices.Equal(again, []api.Span{span(93501, 93503)}) || e != api.OK {
		t.Error(again, e)
	}
	if !reflect.DeepEqual(before, j) {
		t.Error("an argument has changed", before, j)
	}
}

// TestEmpty is for R3: a nil list and an empty one are the same.
func TestEmpty(t *testing.T) {
	empty := job{api.WiresRules{Angles: []api.WiresAngle{}}, []api.WiresSet{}, []api.WiresReading{}}
	if got, want := allAnswers(empty, api.WiresTruth{}), allAnswers(job{}, api.WiresTruth{}); !reflect.DeepEqual(got, want) {
		t.Error(got, want)
	}
	for _, j := range []job{example(sets()), example(func(j *job) { j.sets = []api.WiresSet{} })} {
		if e := wires.Check(j.rules, j.sets); e != api.OK {
			t.Error(e)
		}
		checkReadingsFail(t, j, api.ErrNone)
	}
}

// fullJob returns a job in which all that there is is as wide, and as much, as it may be.
func fullJob(factor, apart int) job {
	var j job
	for i := range api.MaxWiresAngles {
		j.rules.Angles = append(j.rules.Angles, api.WiresAngle{Factor: factor - i, Half: 20000 - i})
	}
	j.rules.Pitch, j.rules.Press, j.rules.Error = span(199960, 200000), span(960, 1000), span(-1000, -960)
	wide := span(99960, 100000)
	j.sets = slices.Repeat([]api.WiresSet{set(wide, wide, wide)}, api.MaxWiresSets)
	for number := range api.MaxWiresReadings {
		j.readings = append(j.readings, api.WiresReading{Set: number + 4, Shown: apart*number - api.MaxLength})
	}
	return j
}

// TestFull is for R7 and P1: as much as there may be.
func TestFull(t *testing.T) {
	for _, factor := range []int{1020, 3000, 20000} {
		for _, apart := range []int{0, 1, 900, 3000, 100000} {
			j := fullJob(factor, apart)
			out, e := wires.Wrong(j.rules, j.sets, j.readings)
			if len(out) == 0 || e != api.OK {
				t.Fatal(factor, apart, out, e)
			}
			sizes, e := wires.Sizes(j.rules, j.sets, j.readings)
			low, high, f := wires.Ends(j.rules, j.sets, j.readings)
			if agree := len(out[0]) == 0; agree != (e == api.OK) || agree != (f == api.OK) {
				t.Error(factor, apart, out, e, f)
			}
			if e == api.OK {
				checkEnd(t, j, sizes[0].Low, low)
				checkEnd(t, j, sizes[len(sizes)-1].High, high)
			}
		}
	}
}
