package lead_test

import (
	"slices"
	"testing"

	"acme/api"
	"acme/lead"
)

// reads returns reads by Up and Down, in turn.
func reads(spans ...api.Span) []api.LeadRead {
	var l []api.LeadRead
	for pair := range slices.Chunk(spans, 2) {
		l = append(l, api.LeadRead{Up: pair[0], Down: pair[1]})
	}
	return l
}

// TestLashExample is for P6.8: the chapter's example 6, and further ones.
func TestLashExample(t *testing.T) {
	for i, c := range []struct {
		lash  api.Span
		reads []api.LeadRead
		want  api.Span
	}{
		{span(5, 8), reads(span(100, 101), span(107, 108)), span(6, 8)}, {span(5, 8), nil, span(5, 8)}, {span(5, 8), reads(just(100), just(105)), just(5)}, {span(5, 8), reads(just(-108), just(-100)), just(8)},
		{span(0, 10000), reads(span(100, 101), span(107, 108)), span(6, 8)}, {span(0, 10000), reads(span(0, 3), span(2, 9)), span(0, 9)}, {span(0, 10000), reads(span(100, 110), span(90, 100)), just(0)},
		{span(0, 10000), reads(just(0), span(3, 6), span(10, 12), span(17, 18)), span(5, 6)}, {span(0, 10000), reads(span(10, 12), span(17, 18), just(0), span(3, 6)), span(5, 6)}, {span(7, 8), reads(just(0), span(0, 99), just(0), span(8, 9)), just(8)},
		{span(0, 10000), reads(just(-10000000), just(-9990000)), just(10000)}, {span(0, 10000), reads(just(10000000), just(10000000)), just(0)}, {span(0, 10000), reads(span(-10000000, 10000000), span(-10000000, 10000000)), span(0, 10000)},
		{span(5, 8), slices.Repeat(reads(just(0), just(6)), 50), just(6)},
	} {
		j := example(lash(c.lash))
		if got, e := lead.Lash(j.screw, c.reads); got != c.want || e != api.OK {
			t.Error(i, c.lash, c.reads, got, e)
		}
	}
}

// TestLashErrors is for P6.8's errors and their order.
func TestLashErrors(t *testing.T) {
	j := example()
	good := reads(just(0), just(6))
	for _, s := range badSpans(-10000000, 10000000) {
		for _, l := range [][]api.LeadRead{reads(s, just(0)), reads(just(0), s), reads(just(0), just(6), just(0), s), reads(just(0), just(99), s, just(0)), append(slices.Repeat(good, 49), reads(just(0), s)...)} {
			if got := valueAnswer(lead.Lash(j.screw, l)); got != failed(api.ErrArg) {
				t.Error(l, got)
			}
		}
		if got := valueAnswer(lead.Lash(j.screw, append(reads(s, s), slices.Repeat(good, 50)...))); got != failed(api.ErrLong) {
			t.Error(s, got)
		}
	}
	for _, count := range []int{51, 52, 5000} {
		if got := valueAnswer(lead.Lash(j.screw, slices.Repeat(good, count))); got != failed(api.ErrLong) {
			t.Error(count, got)
		}
	}
	for _, l := range [][]api.LeadRead{reads(just(0), just(4)), reads(just(0), just(9)), reads(just(6), just(0)), reads(just(0), just(5), just(0), just(6)), reads(just(0), span(5, 6), just(0), span(7, 8), just(0), span(5, 8)), reads(just(10000000), just(-10000000)), reads(just(-10000000), just(10000000))} {
		if got := valueAnswer(lead.Lash(j.screw, l)); got != failed(api.ErrState) {
			t.Error(l, got)
		}
	}
}

// TestLashSearch is for P6.8: each integer of the backlash, and each of each read.
func TestLashSearch(t *testing.T) {
	r := dice()
	found := map[bool]int{}
	for range 2000 {
		j := example(lash(part(r, span(0, 12))))
		var l []api.LeadRead
		for range r.IntN(4) {
			l = append(l, reads(part(r, span(-5, 5)), part(r, span(-5, 12)))...)
		}
		var want []int
		for b := j.screw.Lash.Low; b <= j.screw.Lash.High; b++ {
			if !slices.ContainsFunc(l, func(read api.LeadRead) bool { return !canBe(read, b) }) {
				want = append(want, b)
			}
		}
		got, e := lead.Lash(j.screw, l)
		found[e == api.OK]++
		if len(want) == 0 {
			if e != api.ErrState || got != (api.Span{}) {
				t.Fatal(j, l, got, e)
			}
			continue
		}
		if got != span(want[0], want[len(want)-1]) || e != api.OK {
			t.Fatal(j, l, got, e, want)
		}
	}
	if found[true] < 300 || found[false] < 300 {
		t.Error("all have the same result", found)
	}
}

// canBe reports whether a number of Up and one of Down differ by a backlash.
func canBe(read api.LeadRead, lash int) bool {
	for up := read.Up.Low; up <= read.Up.High; up++ {
		if read.Down.Low <= up+lash && up+lash <= read.Down.High {
			return true
		}
	}
	return false
}

// TestTrueLash is for P6.13: true reads leave the true backlash.
func TestTrueLash(t *testing.T) {
	r := dice()
	for range 1000 {
		j := wideJob(r)
		b := within(r, j.screw.Lash)
		var l []api.LeadRead
		for range r.IntN(api.MaxLeadReads + 1) {
			up := within(r, span(-api.MaxLength+9, api.MaxLength-api.MaxLeadError-9))
			l = append(l, reads(span(up-r.IntN(9), up+r.IntN(9)), span(up+b-r.IntN(9), up+b+r.IntN(9)))...)
		}
		if got, e := lead.Lash(j.screw, l); b < got.Low || b > got.High || e != api.OK {
			t.Fatal(j, l, got, e, b)
		}
	}
}
