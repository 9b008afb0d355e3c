package die_test

import (
	"testing"

	"acme/api"
	"acme/die"
)

// TestLearnExample is for P7.9: the chapter's example 5, and further ones.
func TestLearnExample(t *testing.T) {
	one := example(scatter(span(3, 5)), wears(span(100, 200)))
	size, widest := span(100000, 105000), span(-20000000000, 20000000000)
	for i, c := range []struct {
		j           job
		size        api.Span
		shown       int
		wrong, want api.Span
	}{
		{example(), size, 103000, span(-100, 100), span(102400, 103600)}, {example(), size, 103000, just(0), span(102500, 103500)}, {example(), size, 100000, just(0), span(100000, 100500)}, {example(), size, 99500, just(0), just(100000)}, {example(), size, 105500, just(0), just(105000)}, {example(), size, 105000, span(-100, 100), span(104400, 105000)},
		{example(), span(102900, 103100), 103000, span(-100, 100), span(102900, 103100)}, {example(), just(103000), 103000, just(0), just(103000)}, {example(), size, 102000, span(-1000000, 1000000), size},
		// The diameter is by 3 to 5 greater than the size, and the reading is by 10 to 11 greater than the diameter.
		{one, span(0, 1000), 500, span(10, 11), span(484, 487)}, {one, span(0, 1000), 500, span(-11, -10), span(505, 508)}, {one, span(0, 486), 500, span(10, 11), span(484, 486)}, {one, span(486, 1000), 500, span(10, 11), span(486, 487)}, {one, span(487, 487), 500, span(10, 11), just(487)}, {one, just(484), 500, span(10, 11), just(484)},
		{example(scatter(span(-1000000, 1000000))), widest, 20000000000, span(-1000000, 1000000), span(19998000000, 20000000000)}, {example(scatter(just(1000000))), widest, -20000000000, just(-1000000), just(-20000000000)}, {example(scatter(just(-1000000))), widest, 20000000000, just(1000000), just(20000000000)}, {example(scatter(just(1000000))), widest, 0, just(1000000), just(-2000000)},
	} {
		// It does not matter whether wear makes the tool greater, or how far a setting can be wrong.
		for _, more := range []change{set(span(-1000, 1000)), down, set(just(999)), wears(just(0))} {
			more(&c.j)
			if got, e := die.Learn(c.j.tool, c.size, c.shown, c.wrong); got != c.want || e != api.OK {
				t.Error(i, c.j, got, e)
			}
		}
	}
}

// TestLearnNone is for P7.9: there is no such size.
func TestLearnNone(t *testing.T) {
	one := example(scatter(span(3, 5)))
	for i, c := range []struct {
		j     job
		size  api.Span
		shown int
		wrong api.Span
	}{
		{example(), span(100000, 105000), 99499, just(0)}, {example(), span(100000, 105000), 105501, just(0)}, {one, just(483), 500, span(10, 11)}, {one, just(488), 500, span(10, 11)}, {one, span(-500, 483), 500, span(10, 11)}, {one, span(488, 900), 500, span(10, 11)},
		{example(), just(-20000000000), 20000000000, span(-1000000, 1000000)}, {example(), just(20000000000), -20000000000, span(-1000000, 1000000)},
	} {
		for _, goesDown := range []bool{false, true} {
			c.j.tool.Down = goesDown
			if got := valueAnswer(die.Learn(c.j.tool, c.size, c.shown, c.wrong)); got != failed(api.ErrState) {
				t.Error(i, c.j, got)
			}
		}
	}
}

// TestLearnErrors is for P7.9's errors: what is not valid comes before sizes that there are not.
func TestLearnErrors(t *testing.T) {
	good, far := span(100000, 105000), just(-20000000000)
	for _, j := range []job{example(), tap()} {
		for _, s := range badSpans(-20000000000, 20000000000) {
			for _, got := range []answer{valueAnswer(die.Learn(j.tool, s, 103000, just(0))), valueAnswer(die.Learn(j.tool, s, 20000000001, span(1, 0)))} {
				if got != failed(api.ErrArg) {
					t.Error(j, s, got)
				}
			}
		}
		for _, shown := range outside(-20000000000, 20000000000) {
			for _, size := range []api.Span{good, far} {
				if got := valueAnswer(die.Learn(j.tool, size, shown, just(0))); got != failed(api.ErrArg) {
					t.Error(j, size, shown, got)
				}
			}
		}
		for _, s := range badSpans(-1000000, 1000000) {
			for _, size := range []api.Span{good, far} {
				if got := valueAnswer(die.Learn(j.tool, size, 103000, s)); got != failed(api.ErrArg) {
					t.Error(j, size, s, got)
				}
			}
		}
	}
}

// TestLearnSearch is for P7.9 and P7.14: all sizes, pieces and readings of small jobs.
func TestLearnSearch(t *testing.T) {
	r := dice()
	none := 0
	for range 3000 {
		j, all := anyJob(r)
		size, wrong, shown := part(r, all), part(r, span(-4, 4)), within(r, span(all.Low-10, all.High+10))
		var l []int
		for n := size.Low; n <= size.High; n++ {
			can := false
			for by := j.tool.Scatter.Low; by <= j.tool.Scatter.High; by++ {
				diameter := n + by
				can = can || wrong.Low <= shown-diameter && shown-diameter <= wrong.High
			}
			if can {
				l = append(l, n)
			}
		}
		var want api.Span
		wanted := api.ErrState
		if len(l) > 0 {
			want, wanted = span(l[0], l[len(l)-1]), api.OK
		} else {
			none++
		}
		if got, e := die.Learn(j.tool, size, shown, wrong); got != want || e != wanted {
			t.Fatal(j, size, shown, wrong, got, e, l)
		}
	}
	if none < 300 || none > 2700 {
		t.Error("few have such results", none)
	}
}

// checkLooks reports what Looks does not return as it should, of a tool and of that tool turned round.
func checkLooks(t *testing.T, tool api.DieTool, size api.Span, steel int, zone api.Span, want int) {
	t.Helper()
	if got, e := die.Looks(tool, size, steel, zone); got != want || e != api.OK {
		t.Error(tool, size, steel, zone, got, e, want)
	}
	round := turnedRound(job{tool: tool}).tool
	if got, e := die.Looks(round, turned(size), steel, turned(zone)); got != want || e != api.OK {
		t.Error(round, turned(size), steel, turned(zone), got, e, want)
	}
}

// TestLooksExample is for P7.10: the chapter's example 5, and further ones.
func TestLooksExample(t *testing.T) {
	usual := span(100000, 110000)
	for _, c := range []struct {
		size  api.Span
		steel int
		zone  api.Span
		want  int
	}{
		{span(102400, 103600), 1, usual, 60}, {span(102400, 103600), 0, usual, 296}, {span(102400, 103601), 1, usual, 59}, {span(102400, 103501), 1, usual, 60}, {span(102400, 103500), 1, usual, 61}, {just(103600), 1, usual, 60},
		{span(100500, 109500), 1, usual, 1}, {span(100500, 109400), 1, usual, 2}, {span(100500, 109501), 1, usual, 0}, {span(100499, 109500), 1, usual, 0}, {just(100499), 0, usual, 0}, {just(100500), 0, usual, 451}, {just(200000), 0, usual, 0}, {just(500), 0, span(0, 999), 0}, {just(500), 0, span(0, 1000), 1}, {just(500), 0, span(0, 1019), 1}, {just(500), 0, span(0, 1020), 2},
		{just(-10000000000), 0, span(0, 10000000000), 0}, {just(20000000000), 1, span(0, 10000000000), 0}, {span(500, 9999000000), 1, span(0, 10000000000), 9996},
	} {
		checkLooks(t, example().tool, c.size, c.steel, c.zone, c.want)
		// It does not matter how far a setting can be wrong.
		checkLooks(t, example(set(just(1000000))).tool, c.size, c.steel, c.zone, c.want)
	}
	// These sizes are too great if they are turned round.
	for _, size := range []api.Span{span(-20000000000, 20000000000), just(-20000000000), span(-20000000000, 105000)} {
		if got, e := die.Looks(example().tool, size, 0, usual); got != 0 || e != api.OK {
			t.Error(size, got, e)
		}
	}
	slow := example(scatter(just(0)), wears(just(0), span(0, 1), just(1))).tool
	for _, c := range []struct {
		size  api.Span
		steel int
		zone  api.Span
		want  int
	}{
		{just(5), 0, just(5), 10000}, {just(5), 0, just(6), 0}, {just(0), 1, span(0, 9998), 9999}, {just(0), 1, span(0, 9999), 10000}, {just(0), 1, span(0, 10000), 10000}, {just(0), 2, span(0, 9998), 9999}, {just(0), 2, span(0, 9999), 10000}, {span(-1, 0), 1, span(0, 9999), 0}, {span(0, 1), 1, span(0, 9999), 9999},
	} {
		checkLooks(t, slow, c.size, c.steel, c.zone, c.want)
	}
	slow.Down = true
	checkLooks(t, slow, just(9), 2, span(0, 9), 10)
	checkLooks(t, slow, just(9), 1, span(1, 9), 9)
	checkLooks(t, slow, span(8, 9), 1, span(1, 9), 8)
}

// TestLooksErrors is for P7.10's errors and their order.
func TestLooksErrors(t *testing.T) {
	good, zone := span(100000, 105000), span(100000, 110000)
	for _, j := range []job{example(), tap()} {
		for _, steel := range append(outside(0, 1), 7, 8) {
			if got := valueAnswer(die.Looks(j.tool, good, steel, zone)); got != failed(api.ErrNone) {
				t.Error(j, steel, got)
			}
		}
		for _, steel := range []int{0, 1, 2, -1} {
			for _, s := range badSpans(-20000000000, 20000000000) {
				for _, zone := range []api.Span{zone, span(1, 0)} {
					if got := valueAnswer(die.Looks(j.tool, s, steel, zone)); got != failed(api.ErrArg) {
						t.Error(j, s, steel, zone, got)
					}
				}
			}
			for _, s := range badSpans(0, 10000000000) {
				if got := valueAnswer(die.Looks(j.tool, good, steel, s)); got != failed(api.ErrArg) {
					t.Error(j, s, steel, got)
				}
			}
		}
	}
	eight := example(wears(make([]api.Span, 8)...)).tool
	checkLooks(t, eight, just(105000), 7, zone, 10000)
	if got := valueAnswer(die.Looks(eight, good, 8, zone)); got != failed(api.ErrNone) {
		t.Error(got)
	}
}

// TestLooksSearch is for P7.10 and P7.14: all truths of small tools.
func TestLooksSearch(t *testing.T) {
	r := dice()
	found := map[int]int{}
	for range 1500 {
		j, all := anyJob(r)
		steel, zone := r.IntN(len(j.tool.Wears)), j.orders[0].Zone
		size := within(r, zone)
		sizes := part(r, span(size, min(size+6, all.High)))
		want := 0
		for now := each(sizes); want < api.MaxDiePieces; want++ {
			d := sums(now, j.tool.Scatter)
			if d.Low < zone.Low || d.High > zone.High {
				break
			}
			if j.tool.Wears[steel].High == 0 {
				want = api.MaxDiePieces
				break
			}
			now = after(j.tool, now, steel)
		}
		found[min(want, 3)]++
		checkLooks(t, j.tool, sizes, steel, zone, want)
	}
	if found[0] < 100 || found[1] < 100 || found[2] < 100 || found[3] < 100 {
		t.Error("few have such results", found)
	}
}
