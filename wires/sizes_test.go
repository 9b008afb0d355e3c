package wires_test

import (
	"slices"
	"testing"

	"acme/api"
	"acme/wires"
)

// steep returns rules and sets in which each unit of the first two wires is 5 units, and of the third one 10; 5000 is shown with the set 0.
func steep(changes ...change) job {
	j := example(angles(api.WiresAngle{Factor: 20000}), press(just(0)), errs(just(0)), sets(set(just(100), just(100), span(100, 102))), shows(0, 5000))
	for _, c := range changes {
		c(&j)
	}
	return j
}

// TestSizes is for P5.3.
func TestSizes(t *testing.T) {
	flat := angles(api.WiresAngle{Factor: 1001}, api.WiresAngle{Factor: 1001, Half: 1})
	thin := sets(set(just(1), just(1), just(1)))
	for i, c := range []struct {
		j    job
		want []api.Span
	}{
		{example(shows(0, 102845)), []api.Span{span(93501, 93508)}},
		{example(shows(1, 102240)), []api.Span{span(93499, 93503)}},
		{example(), []api.Span{span(93501, 93503)}},
		{example(shows(1, 102250)), []api.Span{span(93509, 93513)}},
		{example(shows(0, -102845)), []api.Span{span(-112189, -112182)}},
		{steep(), []api.Span{just(2980), just(2990), just(3000)}},
		{steep(errs(span(0, 8))), []api.Span{span(2972, 2980), span(2982, 2990), span(2992, 3000)}},
		{steep(press(span(0, 8))), []api.Span{span(2980, 2988), span(2990, 2998), span(3000, 3008)}},
		{steep(press(span(0, 3)), errs(span(-4, 1))), []api.Span{span(2979, 2987), span(2989, 2997), span(2999, 3007)}},
		// No integer is between them: they are one span.
		{steep(errs(span(0, 9))), []api.Span{span(2971, 3000)}},
		{steep(errs(span(0, 10))), []api.Span{span(2970, 3000)}},
		{steep(sets(set(just(100), span(100, 101), span(100, 102)))), []api.Span{just(2975), just(2980), just(2985), just(2990), just(2995), just(3000)}},
		{steep(sets(set(span(100, 101), just(100), just(100)))), []api.Span{just(2995), just(3000)}},
		// The pitch, and another angle, for each size of its own.
		{steep(angles(api.WiresAngle{Factor: 20000, Half: 3000}), pitch(span(100, 101)), sets(set(just(100), just(100), just(100)))), []api.Span{just(3300), just(3303)}},
		{steep(angles(api.WiresAngle{Factor: 20000, Half: 2000}), pitch(span(100, 102)), sets(set(just(100), just(100), just(100)))), []api.Span{just(3200), just(3202), just(3204)}},
		{steep(angles(api.WiresAngle{Factor: 20000}, api.WiresAngle{Factor: 19980}, api.WiresAngle{Factor: 19990}), sets(set(just(100), just(100), just(100)))), []api.Span{span(3000, 3002)}},
		// What is added is 1.001, and 0.901.
		{example(flat, thin, pitch(just(100)), press(just(0)), errs(just(0)), shows(0, 7)), []api.Span{span(6, 7)}},
		// The least and the greatest size that a reading can want.
		{example(angles(api.WiresAngle{Factor: 20000}), sets(set(just(100000), just(100000), just(100000))), press(just(0)), errs(just(1000)), shows(0, -10000000)), []api.Span{just(-12001000)}},
		{example(angles(api.WiresAngle{Factor: 1001, Half: 20000}), pitch(just(200000)), thin, press(just(1000)), errs(just(-1000)), shows(0, 10000000)), []api.Span{just(14001999)}},
	} {
		if got, e := wires.Sizes(c.j.rules, c.j.sets, c.j.readings); !slices.Equal(got, c.want) || e != api.OK {
			t.Error(i, got, e)
		}
	}
}

// nowhere returns readings that do not agree, each of them for another reason.
func nowhere() []job {
	two := sets(set(just(100), just(100), span(100, 102)), set(just(100), just(100), just(100)))
	return []job{
		example(shows(0, 102845, 1, 102250)), example(shows(0, 102845, 1, 102237)), example(shows(0, 102845, 1, 50000)),
		// Between the sizes of the first one.
		steep(two, shows(0, 5000, 1, 4985)), steep(two, shows(0, 5000, 1, 5010)),
		// Each alone has the size 3000, but at other angles, and with other pitches.
		steep(angles(api.WiresAngle{Factor: 20000}, api.WiresAngle{Factor: 10000}), two, shows(0, 5000, 1, 4000)),
		steep(angles(api.WiresAngle{Factor: 20000, Half: 1000}), pitch(span(10000, 10011)), sets(set(just(100), just(100), just(100)), set(just(200), just(200), just(200))), shows(0, 5000, 1, 6988)),
	}
}

// TestSizesState is for P5.3, P5.4 and P5.5: if readings do not agree, Sizes and Ends say so.
func TestSizesState(t *testing.T) {
	for _, j := range nowhere() {
		if got := listAnswer(wires.Sizes(j.rules, j.sets, j.readings)); got != failed(api.ErrState) {
			t.Error(j, got)
		}
		if got := endsAnswer(wires.Ends(j.rules, j.sets, j.readings)); got != failed(api.ErrState) {
			t.Error(j, got)
		}
		if got, e := wires.Wrong(j.rules, j.sets, j.readings); !equalLists(got, [][]int{{0}, {1}}) || e != api.OK {
			t.Error(j, got, e)
		}
		for _, reading := range j.readings {
			if got := listAnswer(wires.Sizes(j.rules, j.sets, []api.WiresReading{reading})); got != (answer{e: api.OK}) {
				t.Error(j, reading, got)
			}
		}
	}
}

// jobs returns as many jobs of few truths, always the same.
func jobs(count int) []job {
	r := dice()
	var l []job
	for range count {
		l = append(l, anyJob(r))
	}
	return l
}

// TestSizesSearch is for P5.3: the same sizes as a search through all truths has.
func TestSizesSearch(t *testing.T) {
	found := map[string]int{}
	for _, j := range jobs(2000) {
		want := spansOf(sizesOf(search(j)))
		got, e := wires.Sizes(j.rules, j.sets, j.readings)
		if len(want) == 0 {
			found["none"]++
			if len(got) != 0 || e != api.ErrState {
				t.Error(j, got, e)
			}
			continue
		}
		found["some"]++
		if len(want) > 1 {
			found["gaps"]++
		}
		if !slices.Equal(got, want) || e != api.OK {
			t.Error(j, got, want, e)
		}
	}
	if found["none"] < 100 || found["some"] < 100 || found["gaps"] < 100 {
		t.Error("the search has not all answers", found)
	}
}
