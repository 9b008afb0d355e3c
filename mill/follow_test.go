package mill_test

import (
	"math/rand/v2"
	"slices"
	"testing"

	"acme/api"
	dies "acme/die"
	"acme/mill"
)

// TestThinner is for P12.10: each draw is allowed, the last one is to the diameter that was wanted, and with more dies or greater limits no more annealings are needed.
func TestThinner(t *testing.T) {
	r := dice()
	found, less := 0, 0
	for range 4000 {
		l := anyRules(r, 12)
		from, to := anyWire(r, l)
		draws, e := mill.Draws(l, from, to)
		if e != api.OK {
			continue
		}
		found++
		at := from
		if len(draws) > 0 {
			at = draws[len(draws)-1].To
		}
		if at != to || !isAllowed(l, from, draws) {
			t.Error(l, from, to, draws)
		}
		for _, wider := range widerRules(r, l) {
			more := drawsOf(t, wider, from, to)
			if annealings(more) > annealings(draws) {
				t.Error(l, wider, from, to, draws, more)
			}
			if annealings(more) < annealings(draws) {
				less++
			}
		}
	}
	if found < 1000 || less < 50 {
		t.Error(found, less)
	}
}

// widerRules returns rules with one more die, or with a greater limit.
func widerRules(r *rand.Rand, l api.MillRules) []api.MillRules {
	reduce, total, more := l, l, l
	reduce.Reduce += r.IntN(1000 - l.Reduce)
	total.Total += r.IntN(1000 - l.Total)
	more.Dies = append(slices.Clone(l.Dies), 1+r.IntN(l.Dies[0]))
	slices.SortFunc(more.Dies, func(a, b int) int { return b - a })
	more.Dies = slices.Compact(more.Dies)
	return []api.MillRules{reduce, total, more}
}

// TestVolumes is for P12.11: a blank as long as High has enough, one shorter than Low has too little, and Spare says so.
func TestVolumes(t *testing.T) {
	r := dice()
	enough, little := 0, 0
	for range 3000 {
		thin, thick := 1+r.IntN(300), 1+r.IntN(300)
		wire := span(min(thin, thick), max(thin, thick))
		var l []api.MillPart
		for range 1 + r.IntN(10) {
			l = append(l, part(1+r.IntN(300), 1+r.IntN(300)))
		}
		blank, e := mill.Blank(l, wire)
		if e != api.OK || blank.Low > blank.High {
			t.Fatal(l, wire, blank, e)
		}
		for range 4 {
			if cut := span(blank.High+r.IntN(2)*r.IntN(9), api.MaxLength); cut.Low <= cut.High {
				spare, e := mill.Spare(l, wire, cut)
				if e != api.OK || spare.Low < 0 {
					t.Error(l, wire, cut, spare, e)
				}
				enough++
			}
			if cut := span(1, min(blank.Low-1-r.IntN(2)*r.IntN(9), api.MaxLength)); cut.Low <= cut.High {
				spare, e := mill.Spare(l, wire, cut)
				if e != api.OK || spare.High >= 0 {
					t.Error(l, wire, cut, spare, e)
				}
				little++
			}
		}
	}
	if enough < 1000 || little < 1000 {
		t.Error(enough, little)
	}
}

// TestCoils is for P12.12: no coil is used for more than it is long, and no other way uses fewer coils.
func TestCoils(t *testing.T) {
	r := dice()
	found := 0
	for range 300 {
		var coils, needs []int
		for range 1 + r.IntN(8) {
			coils = append(coils, 20+r.IntN(80))
		}
		for range 1 + r.IntN(8) {
			needs = append(needs, 1+r.IntN(50))
		}
		shared, e := mill.Share(coils, needs)
		if e != api.OK {
			continue
		}
		found++
		if !isShared(coils, needs, shared) {
			t.Error(coils, needs, shared)
		}
		for range 2000 {
			other := make([]int, len(needs))
			for order := range other {
				other[order] = r.IntN(1 + r.IntN(len(coils)))
			}
			if isShared(coils, needs, other) && usedCoils(other) < usedCoils(shared) {
				t.Error(coils, needs, shared, other)
			}
		}
		// Without any of the coils that are used there must be as many others.
		used := usedCoils(shared)
		for number := range coils {
			less, e := mill.Share(slices.Delete(slices.Clone(coils), number, number+1), needs)
			if e == api.OK && usedCoils(less) < used || e == api.ErrNone && !slices.Contains(shared, number) {
				t.Error(coils, needs, shared, number, less, e)
			}
		}
	}
	if found < 100 {
		t.Error(found)
	}
}

// anyTruth returns works, lots of which something was made, and a cause that at least one of them has.
func anyTruth(r *rand.Rand) ([]api.MillRun, []api.MillLot, api.MillCause) {
	for {
		l, lots := anyWorks(r), anyLots(r, 8)
		for _, made := range lots {
			if had := culprits(l, []api.MillLot{made}, nil); len(had) > 0 {
				return l, lots, had[r.IntN(len(had))]
			}
		}
	}
}

// split returns lots that have a cause, and those that do not.
func split(l []api.MillRun, lots []api.MillLot, c api.MillCause) (bad, good []api.MillLot) {
	for _, made := range lots {
		if has(l, made, c) {
			bad = append(bad, made)
		} else {
			good = append(good, made)
		}
	}
	return bad, good
}

// TestToBlame is for P12.13: what is truly to blame is among the culprits, and each culprit would explain all.
func TestToBlame(t *testing.T) {
	r := dice()
	for range 1000 {
		l, lots, truth := anyTruth(r)
		bad, good := split(l, lots, truth)
		blamed := culpritsOf(t, l, bad, good)
		if !slices.Contains(blamed, truth) {
			t.Error(l, lots, truth, blamed)
		}
		for _, c := range blamed {
			nowBad, nowGood := split(l, lots, c)
			if !slices.Equal(nowBad, bad) || !slices.Equal(nowGood, good) {
				t.Error(l, lots, truth, c)
			}
		}
		recalled, e := mill.Recall(l, lots, truth)
		for number, made := range lots {
			had, causesE := mill.Causes(l, made)
			if e != api.OK || causesE != api.OK || slices.Contains(had, truth) != slices.Contains(recalled, number) {
				t.Error(l, lots, truth, number, recalled, had)
			}
		}
	}
}

// TestMoreKnown is for P12.13: with more lots that are known there are no more culprits, and after the lot that Next returns there are at most as many as it says.
func TestMoreKnown(t *testing.T) {
	r := dice()
	for range 500 {
		l, lots, truth := anyTruth(r)
		bad, good := split(l, lots, truth)
		before := culpritsOf(t, l, bad[:1], nil)
		for known := range len(bad) + len(good) {
			now := culpritsOf(t, l, bad[:1+min(known, len(bad)-1)], good[:max(0, known-len(bad)+1)])
			for _, c := range now {
				if !slices.Contains(before, c) {
					t.Error(l, bad, good, known, before, now)
				}
			}
			before = now
		}
		var seenBad, seenGood = bad[:1:1], []api.MillLot{}
		for range 3 {
			number, left, e := mill.Next(l, seenBad, seenGood, lots)
			if e != api.OK {
				t.Fatal(l, seenBad, seenGood, lots, e)
			}
			if has(l, lots[number], truth) {
				seenBad = append(seenBad, lots[number])
			} else {
				seenGood = append(seenGood, lots[number])
			}
			if now := culpritsOf(t, l, seenBad, seenGood); len(now) > left || !slices.Contains(now, truth) {
				t.Error(l, seenBad, seenGood, now, left, truth)
			}
		}
	}
}

// TestTogether is for example 9 of DOC.md: a machine cuts a piece each hour with a die, and the piece that can be beyond its zone is among the culprits.
func TestTogether(t *testing.T) {
	tool := api.DieTool{Set: span(-1000, 1000), Scatter: span(-500, 500), Wears: []api.Span{span(10, 20), span(50, 100)}}
	orders := []api.DieOrder{{Pieces: 300, Steel: 0, Zone: span(100000, 104000)}}
	at, e := dies.Judge(tool, orders, []api.DieSetting{{From: 0, Target: 101500}})
	if at != 51 || e != api.OK {
		t.Fatal(at, e)
	}
	l := []api.MillRun{run(1, 0, 299, 5, 2)}
	bad := []api.MillLot{lot(1, at, at), lot(1, 40, 60), lot(1, 51, 299)}
	good := []api.MillLot{lot(1, 0, at-1), lot(1, at+1, 299)}
	checkCulprits(t, l, bad, good, []api.MillCause{hour(1, at)}, api.OK)
	checkCulprits(t, l, bad, good[:0], []api.MillCause{coil(5), die(2), hour(1, at)}, api.OK)
}
