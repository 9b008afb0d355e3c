package die_test

import (
	"math/rand/v2"
	"slices"
	"testing"

	"acme/api"
	"acme/die"
)

// truth says which integer of a span is the true one, each time anew.
type truth = func(api.Span) int

// truths returns some: all at the low ends or all at the high ones, some at either, and any.
func truths(r *rand.Rand) []truth {
	return []truth{
		func(s api.Span) int { return s.Low }, func(s api.Span) int { return s.High },
		func(s api.Span) int { return []int{s.Low, s.High}[r.IntN(2)] }, func(s api.Span) int { return within(r, s) },
	}
}

// next returns the size of a tool after a piece.
func next(t api.DieTool, size, steel int, truly truth) int {
	if t.Down {
		return size - truly(t.Wears[steel])
	}
	return size + truly(t.Wears[steel])
}

// cut returns the first piece that is not in its zone in one truth, or the number of all pieces. The first setting is before the piece 0.
func cut(j job, l []api.DieSetting, truly truth) int {
	piece, size := 0, 0
	for _, order := range j.orders {
		for range order.Pieces {
			if len(l) > 0 && l[0].From == piece {
				size, l = l[0].Target+truly(j.tool.Set), l[1:]
			}
			diameter := size + truly(j.tool.Scatter)
			if diameter < order.Zone.Low || diameter > order.Zone.High {
				return piece
			}
			piece, size = piece+1, next(j.tool, size, order.Steel, truly)
		}
	}
	return piece
}

// planned returns the plan of a job; it is empty if there is none.
func planned(t *testing.T, j job) []api.DieSetting {
	t.Helper()
	l, e := die.Plan(j.tool, j.orders)
	if e != api.OK && e != api.ErrNone {
		t.Fatal(j, e)
	}
	return l
}

// TestPlanIsSure is for P7.11.
func TestPlanIsSure(t *testing.T) {
	r := dice()
	found := 0
	for range 60 {
		j := wideJob(r)
		l := planned(t, j)
		if len(l) == 0 {
			continue
		}
		found++
		if got, e := die.Judge(j.tool, j.orders, l); len(l) <= api.MaxDieSettings && (got != piecesOf(j) || e != api.OK) {
			t.Fatal(j, l, got, e)
		}
		for i, truly := range truths(r) {
			if got := cut(j, l, truly); got != piecesOf(j) {
				t.Fatal(j, l, i, got)
			}
		}
	}
	if found < 20 {
		t.Error("few have a plan", found)
	}
}

// TestNoFewer is for P7.12.
func TestNoFewer(t *testing.T) {
	r := dice()
	found := 0
	for range 100 {
		j := wideJob(r)
		l := planned(t, j)
		if len(l) == 0 || len(l) > api.MaxDieSettings {
			continue
		}
		found++
		if got, e := die.Proves(j.tool, j.orders, froms(l)); got != -1 || e != api.OK {
			t.Fatal(j, l, got, e)
		}
		if got, e := die.Most(j.tool, j.orders, len(l)); got != piecesOf(j) || e != api.OK {
			t.Fatal(j, l, got, e)
		}
		less, e := die.Most(j.tool, j.orders, len(l)-1)
		if less >= piecesOf(j) || e != api.OK {
			t.Fatal(j, l, less, e)
		}
		for i := range l[:min(len(l), 50)] {
			// Fewer settings, one of which was left out, to whatever targets.
			fewer := slices.Delete(slices.Clone(l), i, i+1)
			for range 5 {
				if got, e := die.Judge(j.tool, j.orders, fewer); got > less || e != api.OK {
					t.Fatal(j, l, fewer, got, e)
				}
				for k := range fewer {
					fewer[k].Target += r.IntN(2001) - 1000
				}
			}
		}
	}
	if found < 50 {
		t.Error("few have such a plan", found)
	}
}

// TestMoreSettings is for P7.13: Most does not fall, and what one setting can do it can also begin later.
func TestMoreSettings(t *testing.T) {
	r := dice()
	for range 200 {
		j := wideJob(r)
		before := 0
		for settings := range 50 {
			got, e := die.Most(j.tool, j.orders, settings)
			if got < before || e != api.OK {
				t.Fatal(j, settings, got, e, before)
			}
			before = got
		}
		from := r.IntN(piecesOf(j))
		to, e := die.Reach(j.tool, j.orders, from)
		if e != api.OK {
			t.Fatal(j, from, e)
		}
		for later := from; later < to; later += 1 + r.IntN(to-later) {
			if _, e := die.Targets(j.tool, j.orders, later, to); e != api.OK {
				t.Fatal(j, from, to, later, e)
			}
			if got, e := die.Reach(j.tool, j.orders, later); got < to || e != api.OK {
				t.Fatal(j, from, to, later, got, e)
			}
		}
	}
}

// narrowed returns a job with narrower spans, or with wider zones.
func narrowed(r *rand.Rand, j job) job {
	j = copyOf(j)
	if r.IntN(3) > 0 {
		j.tool.Set = part(r, j.tool.Set)
	}
	if r.IntN(3) > 0 {
		j.tool.Scatter = part(r, j.tool.Scatter)
	}
	for i, wear := range j.tool.Wears {
		if r.IntN(2) > 0 {
			j.tool.Wears[i] = part(r, wear)
		}
	}
	for i, order := range j.orders {
		if r.IntN(4) == 0 {
			zone := order.Zone
			j.orders[i].Zone = span(within(r, span(zone.Low/2, zone.Low)), within(r, span(zone.High, min(2*zone.High, api.MaxDieAt))))
		}
	}
	return j
}

// TestNarrower is for P7.13: no plan has more settings.
func TestNarrower(t *testing.T) {
	r := dice()
	found := 0
	for range 150 {
		j := wideJob(r)
		l := planned(t, j)
		if len(l) == 0 {
			continue
		}
		for range 3 {
			k := narrowed(r, j)
			fewer := planned(t, k)
			if len(fewer) == 0 || len(fewer) > len(l) {
				t.Fatal(j, k, len(l), len(fewer))
			}
			if len(fewer) < len(l) {
				found++
			}
		}
	}
	if found < 50 {
		t.Error("few plans have fewer settings", found)
	}
}

// TestLearned is for P7.14: the true size is learned, whatever it is.
func TestLearned(t *testing.T) {
	r := dice()
	for range 300 {
		j := wideJob(r)
		size := part(r, span(-2*api.MaxDieAt, 2*api.MaxDieAt))
		size.High = min(size.High, size.Low+[]int{10, 3000, api.MaxDieAt}[r.IntN(3)])
		wrong := part(r, span(-api.MaxDieError, api.MaxDieError))
		for i, truly := range truths(r) {
			was := truly(size)
			shown := was + truly(j.tool.Scatter) + truly(wrong)
			if shown < -2*api.MaxDieAt || shown > 2*api.MaxDieAt {
				continue
			}
			if got, e := die.Learn(j.tool, size, shown, wrong); was < got.Low || was > got.High || got.Low < size.Low || got.High > size.High || e != api.OK {
				t.Fatal(j, size, shown, wrong, i, was, got, e)
			}
		}
	}
}

// inZone returns how many pieces of a steel are in a zone in one truth.
func inZone(t api.DieTool, size, steel int, zone api.Span, truly truth) int {
	for count := range api.MaxDiePieces {
		diameter := size + truly(t.Scatter)
		if diameter < zone.Low || diameter > zone.High {
			return count
		}
		size = next(t, size, steel, truly)
	}
	return api.MaxDiePieces
}

// steady returns the tools all of whose pieces do the same, and the sizes, that are at the ends of spans.
func steady(t api.DieTool, size api.Span) (tools []api.DieTool, sizes []int) {
	for corner := range 8 {
		end := func(s api.Span, bit int) api.Span {
			if corner&bit > 0 {
				return just(s.High)
			}
			return just(s.Low)
		}
		tool := copyOf(job{tool: t}).tool
		tool.Scatter = end(t.Scatter, 1)
		for i, wear := range t.Wears {
			tool.Wears[i] = end(wear, 2)
		}
		tools, sizes = append(tools, tool), append(sizes, end(size, 4).Low)
	}
	return tools, sizes
}

// TestLooksTrue is for P7.14: so many pieces are in the zone, and the next one can be out.
func TestLooksTrue(t *testing.T) {
	r := dice()
	found := map[int]int{}
	for range 400 {
		j := wideJob(r)
		order := j.orders[r.IntN(len(j.orders))]
		low := within(r, span(order.Zone.Low, order.Zone.Low+3*(order.Zone.High-order.Zone.Low)/2))
		size := span(low, low+r.IntN(2+(order.Zone.High-order.Zone.Low)/4))
		got, e := die.Looks(j.tool, size, order.Steel, order.Zone)
		if e != api.OK {
			t.Fatal(j, size, order, got, e)
		}
		for i, truly := range truths(r) {
			if count := inZone(j.tool, truly(size), order.Steel, order.Zone, truly); count < got {
				t.Fatal(j, size, order, got, i, count)
			}
		}
		worst := api.MaxDiePieces
		tools, sizes := steady(j.tool, size)
		for i, tool := range tools {
			worst = min(worst, inZone(tool, sizes[i], order.Steel, order.Zone, func(s api.Span) int { return s.Low }))
		}
		if got != worst {
			t.Fatal("one more is in the zone, too", j, size, order, got, worst)
		}
		switch got {
		case 0, api.MaxDiePieces:
			found[got]++
		default:
			found[1]++
		}
	}
	if found[0] < 50 || found[1] < 50 || found[api.MaxDiePieces] < 10 {
		t.Error("few have such results", found)
	}
}

// TestTurnedRound is for P7.15.
func TestTurnedRound(t *testing.T) {
	r := dice()
	for i := range 400 {
		j := wideJob(r)
		if i%2 == 0 {
			j, _ = anyJob(r)
		}
		k := turnedRound(j)
		pieces := piecesOf(j)
		from := r.IntN(pieces)
		to := within(r, span(from+1, min(pieces, from+1+r.IntN(50))))
		targets, e := die.Targets(j.tool, j.orders, from, to)
		round, f := die.Targets(k.tool, k.orders, from, to)
		if e != f || e == api.OK && round != turned(targets) {
			t.Fatal(j, from, to, targets, e, round, f)
		}
		l, m := planned(t, j), planned(t, k)
		if !slices.Equal(froms(l), froms(m)) {
			t.Fatal(j, l, m)
		}
		some := anyPlan(r, min(pieces, 1000), span(0, 200000))
		for i := range some {
			if len(l) > 0 && r.IntN(4) > 0 {
				some[i].Target = l[0].Target
			}
		}
		settings := r.IntN(20)
		for name, got := range map[string][2]any{
			"Wear":   {both(die.Wear(j.tool, j.orders, from, to)), both(die.Wear(k.tool, k.orders, from, to))},
			"Reach":  {both(die.Reach(j.tool, j.orders, from)), both(die.Reach(k.tool, k.orders, from))},
			"Most":   {both(die.Most(j.tool, j.orders, settings)), both(die.Most(k.tool, k.orders, settings))},
			"Judge":  {both(die.Judge(j.tool, j.orders, some)), both(die.Judge(k.tool, k.orders, turnedPlan(some)))},
			"Proves": {both(die.Proves(j.tool, j.orders, froms(some))), both(die.Proves(k.tool, k.orders, froms(some)))},
		} {
			if got[0] != got[1] {
				t.Fatal(name, j, from, to, some, got)
			}
		}
	}
}
