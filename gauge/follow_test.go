package gauge_test

import (
	"math/rand/v2"
	"reflect"
	"testing"

	"acme/api"
	"acme/gauge"
)

func lies(n int, s api.Span) bool { return s.Low <= n && n <= s.High }

func narrower(s, than api.Span) bool { return than.Low <= s.Low && s.High <= than.High }

// checkTrue reports what is not as it should be for a history that is true.
func checkTrue(t *testing.T, rules api.GaugeRules, w truth) {
	t.Helper()
	if at, e := gauge.Wrong(rules, w.events); at != -1 || e != api.OK {
		t.Error(rules, w, at, e)
	}
	if size, e := gauge.Size(rules, w.events); !lies(w.size, size) || e != api.OK {
		t.Error(rules, w, size, e)
	}
	for i, master := range w.masters {
		if s, e := gauge.Master(rules, w.events, i); !lies(master, s) || e != api.OK {
			t.Error(rules, w, i, s, e)
		}
	}
}

// wideRules returns rules of more truths than a search could go through.
func wideRules(r *rand.Rand) api.GaugeRules {
	rules := api.GaugeRules{Ring: r.IntN(2) == 0, New: part(r, span(5000000, 5002000)), Wear: part(r, span(0, 100))}
	for range r.IntN(api.MaxGaugeMasters + 1) {
		rules.Masters = append(rules.Masters, part(r, span(4998000, 5003000)))
	}
	return rules
}

// TestTrue is for P4.10: after each event of true histories, whose length reaches the limit.
func TestTrue(t *testing.T) {
	r := dice()
	for range 30 {
		for _, rules := range []api.GaugeRules{anyRules(r), wideRules(r)} {
			for w := anyTruth(r, rules, 0); len(w.events) <= api.MaxGaugeEvents; w = w.next(r, rules) {
				checkTrue(t, rules, w)
			}
		}
	}
}

// withMaster returns rules with a further master, whose size is known.
func withMaster(r api.GaugeRules, size int) api.GaugeRules {
	r = copyOf(r)
	r.Masters = append(r.Masters, span(size, size))
	return r
}

// can reports whether a history does not contradict.
func can(t *testing.T, r api.GaugeRules, l history) bool {
	t.Helper()
	at, e := gauge.Wrong(r, l)
	if e != api.OK {
		t.Fatal(r, l, e)
	}
	return at == -1
}

// TestEnds is for P4.11.
func TestEnds(t *testing.T) {
	r := dice()
	for i := range 1000 {
		rules := wideRules(r)
		if i%2 == 0 {
			rules = anyRules(r)
		}
		rules.Masters = rules.Masters[:min(len(rules.Masters), api.MaxGaugeMasters-1)]
		l := anyTruth(r, rules, r.IntN(40)).events
		size, e := gauge.Size(rules, l)
		if e != api.OK || size.Low < 1 || size.High >= api.MaxLength {
			continue
		}
		number := len(rules.Masters)
		goesInto := func(master int) bool { return can(t, withMaster(rules, master), and(l, goes(number))) }
		staysAt := func(master int) bool { return can(t, withMaster(rules, master), and(l, stays(number))) }
		got := [4]bool{goesInto(size.Low), goesInto(size.Low - 1), staysAt(size.High - 1), staysAt(size.High)}
		if rules.Ring {
			got = [4]bool{goesInto(size.High), goesInto(size.High + 1), staysAt(size.Low + 1), staysAt(size.Low)}
		}
		if got != [4]bool{true, false, true, false} {
			t.Error(rules, l, size, got)
		}
	}
}

// isPossibly reports whether a gauge is beyond a limit in some truth.
func isPossibly(t *testing.T, r api.GaugeRules, l history, limit int) bool {
	t.Helper()
	_, possibly, e := gauge.Beyond(r, l, limit)
	if e != api.OK {
		t.Fatal(r, l, limit, e)
	}
	return possibly
}

// TestInTime is for P4.12.
func TestInTime(t *testing.T) {
	r := dice()
	found := map[string]int{}
	for range 2000 {
		rules := wideRules(r)
		l := anyTruth(r, rules, r.IntN(20)).events
		size, e := gauge.Size(rules, l)
		if e != api.OK {
			t.Fatal(rules, l, e)
		}
		limit := limitAfter(rules, size, r.IntN(6000)-500)
		pieces, e := gauge.Lasts(rules, l, limit)
		if isPossibly(t, rules, l, limit) != (e == api.ErrNone) || e != api.OK && e != api.ErrNone {
			t.Error(rules, l, limit, pieces, e)
		}
		if e != api.OK {
			found["not"]++
			continue
		}
		for _, fewer := range []int{pieces, pieces - 1, pieces - r.IntN(pieces+1), 1} {
			if fewer >= 1 && fewer <= pieces && isPossibly(t, rules, and(l, tried(fewer)), limit) {
				t.Error(rules, l, limit, pieces, fewer)
			}
		}
		if pieces == api.MaxGaugePieces {
			found["as long as can be"]++
			continue
		}
		found["for a time"]++
		if !isPossibly(t, rules, and(l, tried(pieces+1)), limit) {
			t.Error(rules, l, limit, pieces)
		}
	}
	if found["not"] < 50 || found["for a time"] < 50 || found["as long as can be"] < 50 {
		t.Error("gauges do not last in all ways", found)
	}
}

// narrowed returns rules whose spans lie within those of others.
func narrowed(r *rand.Rand, rules api.GaugeRules) api.GaugeRules {
	rules = copyOf(rules)
	rules.New, rules.Wear = part(r, rules.New), part(r, rules.Wear)
	for i, master := range rules.Masters {
		rules.Masters[i] = part(r, master)
	}
	return rules
}

// checkKnownBetter reports spans that are wider than before. It returns whether what is known now does not contradict.
func checkKnownBetter(t *testing.T, before, now api.GaugeRules, l, longer history, sizes bool) bool {
	t.Helper()
	if !can(t, before, l) {
		if can(t, now, longer) {
			t.Error("what contradicts does not do so still", before, now, l, longer)
		}
		return false
	}
	if !can(t, now, longer) {
		return false
	}
	size, _ := gauge.Size(before, l)
	if got, e := gauge.Size(now, longer); sizes && !narrower(got, size) || e != api.OK {
		t.Error(before, now, l, longer, size, got, e)
	}
	for i := range before.Masters {
		master, _ := gauge.Master(before, l, i)
		if got, e := gauge.Master(now, longer, i); !narrower(got, master) || e != api.OK {
			t.Error(before, now, l, longer, i, master, got, e)
		}
	}
	return true
}

// TestKnownBetter is for P4.13: narrower rules, and further checks. Pieces change the size itself: after them just the masters are known as well.
func TestKnownBetter(t *testing.T) {
	r := dice()
	found := map[bool]int{}
	for range 3000 {
		rules := anyRules(r)
		l := anyHistory(r, rules, r.IntN(9))
		if r.IntN(2) == 0 {
			l = anyTruth(r, rules, r.IntN(20)).events
		}
		found[checkKnownBetter(t, rules, narrowed(r, rules), l, l, true)]++
		found[checkKnownBetter(t, rules, narrowed(r, rules), l, and(l, anyHistory(r, rules, 3)...), false)]++
		for master := range rules.Masters {
			for _, check := range events(goes(master), stays(master)) {
				found[checkKnownBetter(t, rules, rules, l, and(l, check), true)]++
			}
		}
	}
	if found[true] < 1000 || found[false] < 1000 {
		t.Error("the search has not both answers", found)
	}
}

// TestGainIsGain is for P4.13: a check does not let a gauge last less in all cases.
func TestGainIsGain(t *testing.T) {
	r := dice()
	more := 0
	for range 2000 {
		rules := withMaster(wideRules(r), 5000000)
		rules.Masters = rules.Masters[:min(len(rules.Masters), api.MaxGaugeMasters)]
		l := anyTruth(r, rules, r.IntN(20)).events
		size, _ := gauge.Size(rules, l)
		limit := limitAfter(rules, size, r.IntN(2000)-200)
		before, e := gauge.Lasts(rules, l, limit)
		if e != api.OK && (before != 0 || e != api.ErrNone) {
			t.Fatal(rules, l, limit, before, e)
		}
		for master := range rules.Masters {
			least, most, e := gauge.Gain(rules, l, limit, master)
			if least > most || most < before || e != api.OK {
				t.Error(rules, l, limit, master, least, most, e, before)
			}
			if most > before {
				more++
			}
		}
	}
	if more < 100 {
		t.Error("few checks let a gauge last longer", more)
	}
}

// turnedAnswers returns the results of all functions for a gauge; spans are turned round if it is a ring.
func turnedAnswers(r api.GaugeRules, l history, limit int) []any {
	turn := func(s api.Span, e api.Errno) any {
		if r.Ring && e == api.OK {
			s = turnedSpan(s)
		}
		return [2]any{s, e}
	}
	answers := []any{gauge.Check(r), turn(gauge.Size(r, l)), both(gauge.Wrong(r, l)), both(gauge.Doubt(r, l))}
	answers = append(answers, three(gauge.Beyond(r, l, limit)), both(gauge.Lasts(r, l, limit)))
	answers = append(answers, turn(gauge.Plan(r.Ring, r.Wear, 777, 50, limit)))
	for master := range len(r.Masters) + 1 {
		answers = append(answers, turn(gauge.Master(r, l, master)), three(gauge.Gain(r, l, limit, master)))
	}
	return answers
}

// TestRing is for P4.14.
func TestRing(t *testing.T) {
	r := dice()
	for range 3000 {
		rules := anyRules(r)
		l := anyHistory(r, rules, r.IntN(9))
		if r.IntN(2) == 0 {
			l = anyTruth(r, rules, r.IntN(20)).events
		}
		limit := limitAfter(rules, rules.New, r.IntN(30)-5)
		turned := turnedRound(rules)
		once, twice := turnedAnswers(rules, l, limit), turnedAnswers(turned, l, api.MaxLength-limit)
		if !reflect.DeepEqual(once, twice) {
			t.Error(rules, l, limit, once, twice)
		}
	}
}
