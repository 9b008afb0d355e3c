package record_test

import (
	"slices"
	"testing"

	"acme/api"
	"acme/gauge"
	"acme/record"
)

// plug returns the rules of chapter 4's examples.
func plug() api.GaugeRules {
	return api.GaugeRules{New: span(5000, 5010), Wear: span(20, 50), Masters: []api.Span{span(4995, 4997), span(4980, 4980)}}
}

// TestReplayExample is for P13.9: the example 10 of DOC.md.
func TestReplayExample(t *testing.T) {
	l := history{at(3, 0, 0, tried(200)), at(5, 0, 0, tried(100))}
	for day, want := range []api.Span{span(5000, 5010), span(5000, 5010), span(5000, 5010), span(4990, 5006), span(4990, 5006), span(4985, 5004), span(4985, 5004)} {
		if s, e := record.Replay(plug(), l, 0, day); s != want || e != api.OK {
			t.Error(day, s, e, want)
		}
	}
	if s, e := record.Replay(plug(), l, 0, 65535); s != span(4985, 5004) || e != api.OK {
		t.Error(s, e)
	}
}

// TestReplay is for P13.9: the events of one gauge up to a day, in their order.
func TestReplay(t *testing.T) {
	l := history{
		at(0, 0, 0, tried(200)), at(0, 1, 0, tried(1000)), at(0, 1, 1, goes(0)), at(3, 0, 7, stays(0)), at(3, 0, 9, tried(100)), at(3, 2, 0, tried(5)), at(3, 255, 0, tried(100)), at(9, 0, 0, tried(100)), at(9, 1, 200, stays(1)), at(65535, 0, 0, tried(100)), at(65535, 255, 255, goes(1)),
	}
	for i, c := range []struct {
		gauge, day int
		want       api.Span
		e          api.Errno
	}{
		{0, 0, span(4990, 5006), api.OK}, {0, 2, span(4990, 5006), api.OK}, {0, 3, span(4991, 5004), api.OK}, {0, 8, span(4991, 5004), api.OK}, {0, 9, span(4986, 5002), api.OK}, {0, 65534, span(4986, 5002), api.OK}, {0, 65535, span(4981, 5000), api.OK},
		{1, 0, span(4950, 4990), api.OK}, {1, 8, span(4950, 4990), api.OK}, {1, 9, span(4981, 4990), api.OK}, {2, 0, span(5000, 5010), api.OK}, {2, 3, span(4999, 5010), api.OK}, {3, 65535, span(5000, 5010), api.OK}, {255, 3, span(4995, 5008), api.OK}, {255, 65534, span(4995, 5008), api.OK}, {255, 65535, api.Span{}, api.ErrState},
	} {
		if s, e := record.Replay(plug(), l, c.gauge, c.day); s != c.want || e != c.e {
			t.Error(i, s, e)
		}
	}
}

// TestReplayByWords is for P13.9, against what gauge.Size says of the events of each gauge up to each day.
func TestReplayByWords(t *testing.T) {
	r := dice()
	seen := map[api.Errno]int{}
	for range 500 {
		var l history
		for day := range 4 {
			for number := range 3 {
				for range r.IntN(4) {
					l = append(l, at(day, number, 50*number+r.IntN(50), anyOf(r, tried(1+r.IntN(900)), tried(10), goes(0), stays(1), stays(r.IntN(3)))))
				}
			}
		}
		l = onceEach(l)
		rules := plug()
		rules.Ring = r.IntN(8) == 0
		for number := range 4 {
			for day := range 5 {
				var did []api.GaugeEvent
				for _, v := range l {
					if v.Gauge == number && v.Day <= day {
						did = append(did, v.Event)
					}
				}
				want, wantE := gauge.Size(rules, did)
				if s, e := record.Replay(rules, l, number, day); s != want || e != wantE {
					t.Error(l, number, day, s, e, want, wantE)
				}
				seen[wantE]++
			}
		}
	}
	for _, e := range []api.Errno{api.OK, api.ErrState, api.ErrNone} {
		if seen[e] < 200 {
			t.Error("seldom", e, seen[e])
		}
	}
}

// TestReplayErrors is for P13.9: the errors of Log come first, then ErrRange, then those of gauge.Size.
func TestReplayErrors(t *testing.T) {
	bad := plug()
	bad.Wear = span(5, 4)
	for want, all := range badHistories() {
		for i, l := range all {
			for _, rules := range []api.GaugeRules{plug(), bad} {
				for _, n := range []int{0, -1, 256, 65536} {
					if s, e := record.Replay(rules, l, n, n); s != (api.Span{}) || e != want {
						t.Error(i, l, s, e, want)
					}
				}
			}
		}
	}
	for _, rules := range []api.GaugeRules{plug(), bad} {
		for _, l := range []history{nil, three(), trials(500)} {
			for _, n := range outside(0, 255) {
				if s, e := record.Replay(rules, l, n, 5); s != (api.Span{}) || e != api.ErrRange {
					t.Error(n, s, e)
				}
			}
			for _, n := range outside(0, 65535) {
				if s, e := record.Replay(rules, l, 7, n); s != (api.Span{}) || e != api.ErrRange {
					t.Error(n, s, e)
				}
			}
		}
	}
}

// TestReplaySizeErrors is for P13.9: the errors of gauge.Size, of the events that are replayed.
func TestReplaySizeErrors(t *testing.T) {
	long, wrong := plug(), plug()
	long.Masters = make([]api.Span, 11)
	wrong.New = span(5, 4)
	unknown := history{at(3, 1, 0, tried(5)), at(3, 2, 0, tried(5)), at(5, 2, 0, goes(2)), at(7, 2, 0, tried(5))}
	contradicts := history{at(3, 1, 0, tried(200)), at(3, 1, 1, goes(0)), at(5, 1, 0, tried(100)), at(5, 1, 1, stays(0))}
	hundred := slices.Clone(trials(101))
	for i, c := range []struct {
		r          api.GaugeRules
		l          history
		gauge, day int
		e          api.Errno
	}{
		{long, three(), 1, 5, api.ErrLong}, {long, nil, 9, 0, api.ErrLong}, {wrong, three(), 1, 5, api.ErrArg}, {wrong, nil, 9, 0, api.ErrArg}, {wrong, trials(101), 7, 500, api.ErrArg},
		{plug(), hundred, 7, 100, api.ErrLong}, {plug(), hundred, 7, 99, api.OK}, {plug(), hundred, 8, 100, api.OK}, {plug(), trials(500), 7, 99, api.OK}, {plug(), trials(500), 7, 65535, api.ErrLong}, {plug(), trials(500), 6, 65535, api.OK},
		{plug(), unknown, 2, 5, api.ErrNone}, {plug(), unknown, 2, 4, api.OK}, {plug(), unknown, 1, 9, api.OK}, {plug(), three(), 1, 5, api.ErrNone}, {plug(), contradicts, 1, 5, api.ErrState}, {plug(), contradicts, 1, 4, api.OK}, {plug(), contradicts, 2, 5, api.OK},
	} {
		s, e := record.Replay(c.r, c.l, c.gauge, c.day)
		if e != c.e || (e == api.OK) != (s != api.Span{}) {
			t.Error(i, s, e)
		}
	}
}
