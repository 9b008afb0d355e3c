package gauge_test

import (
	"slices"
	"testing"

	"acme/api"
	"acme/gauge"
)

// checkWorld reports what Size and Master do not return as they should.
func checkWorld(t *testing.T, r api.GaugeRules, l history, w world) {
	t.Helper()
	want := api.ErrState
	if w.real {
		want = api.OK
	}
	if got, e := gauge.Size(r, l); got != w.size || e != want {
		t.Error("Size", r, l, got, e, w)
	}
	for i, master := range w.masters {
		if got, e := gauge.Master(r, l, i); got != master || e != want {
			t.Error("Master", i, r, l, got, e, w)
		}
	}
}

// real returns a world that has a truth.
func real(size api.Span, masters ...api.Span) world {
	return world{size: size, masters: masters, real: true}
}

// TestSize is for P4.2 and P4.3: histories that are worked out by hand.
func TestSize(t *testing.T) {
	first, second := span(4995, 4997), span(4980, 4980)
	for _, c := range []struct {
		l history
		w world
	}{
		{nil, real(span(5000, 5010), first, second)},
		{events(tried(200)), real(span(4990, 5006), first, second)}, {events(tried(200), tried(100)), real(span(4985, 5004), first, second)},
		{events(tried(200), stays(0)), real(span(4996, 5006), first, second)},
		{events(tried(200), goes(0)), real(span(4990, 4997), first, second)},
		// Each event is rounded by itself: for one piece, 0.02 to 0.05 become 0 to 1.
		{events(tried(1)), real(span(4999, 5010), first, second)},
		{events(tried(1), tried(1), tried(1)), real(span(4997, 5010), first, second)},
		{events(tried(49)), real(span(4997, 5010), first, second)}, {events(tried(50)), real(span(4997, 5009), first, second)}, {events(tried(60), tried(60)), real(span(4994, 5008), first, second)}, {events(tried(61), tried(61)), real(span(4992, 5008), first, second)},
		{events(tried(100000)), real(span(0, 3010), first, second)},
		// It goes later than it did not go: both ends of the master are known.
		{events(tried(200), stays(0), tried(20), goes(0)), real(span(4995, 4997), first, second)},
		{events(tried(200), stays(0), tried(1), goes(0)), real(span(4995, 4997), first, second)},
		// A check again says nothing more.
		{events(tried(200), goes(0), goes(0), stays(1), stays(1)), real(span(4990, 4997), first, second)},
		{events(stays(1), stays(0)), real(span(5000, 5010), first, second)},
		// It is as small as the other master at last.
		{events(tried(400), goes(1)), real(span(4980, 4980), first, second)},
		{events(tried(400), stays(1)), real(span(4981, 5002), first, second)},
	} {
		checkWorld(t, example(), c.l, c.w)
		turned := c.w
		turned.size, turned.masters = turnedSpan(turned.size), []api.Span{turnedSpan(first), turnedSpan(second)}
		checkWorld(t, ring(), c.l, turned)
	}
}

// TestMasters is for P4.2 and P4.3: what a gauge says of a master, and what a master says of others by the gauge.
func TestMasters(t *testing.T) {
	r := api.GaugeRules{New: span(90, 110), Wear: span(1, 2), Masters: []api.Span{span(80, 120), span(95, 100), span(85, 105)}}
	for _, c := range []struct {
		l history
		w world
	}{
		{events(goes(0)), real(span(90, 110), span(90, 120), span(95, 100), span(85, 105))},
		{events(stays(0)), real(span(90, 110), span(80, 109), span(95, 100), span(85, 105))},
		{events(goes(1), stays(2)), real(span(90, 100), span(80, 120), span(95, 100), span(85, 99))},
		{events(stays(2), tried(1000), goes(2)), real(span(88, 105), span(80, 120), span(95, 100), span(88, 105))},
		{events(stays(1), tried(10000), goes(0)), real(span(76, 100), span(80, 120), span(95, 100), span(85, 105))},
		{events(goes(1), stays(2), tried(3000), stays(0)), real(span(84, 97), span(80, 96), span(95, 100), span(85, 99))},
		// All masters hang together by the gauge.
		{events(stays(1), goes(2), stays(0)), real(span(96, 105), span(80, 104), span(95, 100), span(96, 105))},
	} {
		checkWorld(t, r, c.l, c.w)
		if w := search(r, c.l); w.size != c.w.size || !slices.Equal(w.masters, c.w.masters) {
			t.Error("the search differs", c.l, w, c.w)
		}
	}
}

// TestFar is for P4.2: sizes below 0 and above MaxLength, and the greatest wear.
func TestFar(t *testing.T) {
	r := api.GaugeRules{New: span(0, 10000000), Wear: span(0, 10000), Masters: []api.Span{span(0, 10000000)}}
	all := slices.Repeat(events(tried(100000)), 100)
	checkWorld(t, r, all, real(span(-100000000, 10000000), r.Masters[0]))
	checkWorld(t, r, and(all[1:], stays(0)), real(span(1, 10000000), span(0, 9999999)))
	checkWorld(t, r, and(all[1:], goes(0)), real(span(-99000000, 10000000), r.Masters[0]))
	checkWorld(t, turnedRound(r), all, real(span(0, 110000000), r.Masters[0]))
	r.Wear = span(10000, 10000)
	checkWorld(t, r, all, real(span(-100000000, -90000000), r.Masters[0]))
	checkWorld(t, turnedRound(r), all, real(span(100000000, 110000000), r.Masters[0]))
	r.Wear = span(0, 0)
	checkWorld(t, r, all, real(r.New, r.Masters[0]))
}

// TestSizeSearch is for P4.2 and P4.3: truth by truth.
func TestSizeSearch(t *testing.T) {
	r := dice()
	found := map[bool]int{}
	for range 6000 {
		rules := anyRules(r)
		l := anyHistory(r, rules, r.IntN(9))
		w := search(rules, l)
		found[w.real]++
		checkWorld(t, rules, l, w)
	}
	for range 3000 {
		rules := anyRules(r)
		l := anyTruth(r, rules, r.IntN(12)).events
		checkWorld(t, rules, l, search(rules, l))
	}
	if found[true] < 1000 || found[false] < 1000 {
		t.Error("the search has not both answers", found)
	}
}

// chain returns rules and a history in which a gauge does not go into any master at first, but does after some pieces.
func chain(wear api.Span) (api.GaugeRules, history) {
	r := api.GaugeRules{New: span(0, 10000000), Wear: wear}
	var l history
	for i := range api.MaxGaugeMasters {
		r.Masters = append(r.Masters, span(0, 10000000))
		l = append(l, stays(i), tried(1000), goes(i))
	}
	return r, l
}

// TestChain is for P4.2 to P4.5: histories in which what is known goes a long way, and some that contradict without any end being reached.
func TestChain(t *testing.T) {
	r, l := chain(span(1, 10))
	for i := range r.Masters {
		// A master is smaller than the gauge was, and at least as great as it became; that is above the masters after it.
		if got, e := gauge.Master(r, l, i); got != span(9-i, 9999999-i) || e != api.OK {
			t.Error(i, got, e)
		}
	}
	if got, e := gauge.Size(r, l); got != span(-9, 9999990) || e != api.OK {
		t.Error(got, e)
	}
	// Without wear, a master that it does not go into and then goes into is none, however wide the spans are.
	r, l = chain(span(0, 0))
	for name, got := range historyAnswers(r, l, 0, 0) {
		if name != "Wrong" && name != "Doubt" && got != failed(api.ErrState) {
			t.Error(name, got)
		}
	}
	if at, e := gauge.Wrong(r, l); at != 2 || e != api.OK {
		t.Error(at, e)
	}
	if at, e := gauge.Doubt(r, l); len(at) != 0 || e != api.OK {
		t.Error(at, e)
	}
	if at, e := gauge.Doubt(r, l[:3]); !slices.Equal(at, []int{0, 2}) || e != api.OK {
		t.Error(at, e)
	}
}

// TestLongWay is for P4.2 and P4.3: the last of as many events as there may be says something of a master that was tried first.
func TestLongWay(t *testing.T) {
	r := api.GaugeRules{New: span(0, 10000000), Wear: span(1, 10), Masters: []api.Span{span(5000000, 5000000), span(0, 10000000)}}
	l := and(events(goes(1)), slices.Repeat(events(tried(1000)), 98)...)
	checkWorld(t, r, l, real(span(-980, 9999902), r.Masters[0], r.Masters[1]))
	checkWorld(t, r, and(l, stays(0)), real(span(5000001, 9999902), r.Masters[0], span(5000099, 10000000)))
	l[0] = stays(1)
	checkWorld(t, r, and(l, goes(0)), real(span(-979, 5000000), r.Masters[0], span(0, 5000979)))
}
