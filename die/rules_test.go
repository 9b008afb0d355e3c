package die_test

import (
	"math"
	"reflect"
	"slices"
	"testing"

	"acme/api"
	"acme/die"
)

// both keeps a result and its error together.
func both[T any](value T, e api.Errno) any { return [2]any{value, e} }

// lengths is what is asked of a tool alone.
type lengths struct {
	size, wrong, zone api.Span
	shown, steel      int
}

func usualLengths() lengths {
	return lengths{size: span(100000, 105000), wrong: span(-100, 100), zone: span(100000, 110000), shown: 103000, steel: 1}
}

// allAnswers returns the results of all functions.
func allAnswers(j job, a asked, n lengths) []any {
	return []any{
		die.Check(j.tool, j.orders), both(die.Wear(j.tool, j.orders, a.from, a.to)), both(die.Targets(j.tool, j.orders, a.from, a.to)), both(die.Reach(j.tool, j.orders, a.from)),
		both(die.Plan(j.tool, j.orders)), both(die.Most(j.tool, j.orders, a.settings)), both(die.Judge(j.tool, j.orders, a.plan)), both(die.Proves(j.tool, j.orders, a.pieces)),
		both(die.Learn(j.tool, n.size, n.shown, n.wrong)), both(die.Looks(j.tool, n.size, n.steel, n.zone)),
	}
}

// TestTerminates is for P1: no function panics, whatever its arguments are.
func TestTerminates(t *testing.T) {
	for _, n := range extremes() {
		for _, m := range extremes() {
			s := span(n, m)
			for _, j := range []job{
				example(), tap(), mixed(), {}, {orders: make([]api.DieOrder, 2)}, example(set(s)), example(scatter(s)), tap(wears(s)), example(wears(just(0), s)), example(zone(s)), tap(zone(s)),
				example(orders(n, 0, 0, 0)), example(orders(n, m, 0, 0)), example(orders(1, n, 0, m)), example(orders(5, 0, 0, 90000, n, m, n, m)),
			} {
				for _, a := range []asked{usual(), {from: n, to: m, settings: n, plan: plan(n, m), pieces: []int{n, m}}, {from: 0, to: n, settings: 5, plan: plan(0, n, m, n), pieces: []int{0, n, m}}} {
					for _, l := range []lengths{usualLengths(), {size: s, wrong: just(0), zone: span(0, 5), shown: 7}, {zone: s, wrong: s, shown: n, steel: m}} {
						allAnswers(j, a, l)
					}
				}
			}
		}
	}
}

// asks returns what jobs are asked, right and wrong.
func asks() []asked {
	return append(wrongAsked(), usual(), asked{}, asked{from: 5, to: 290, settings: 2, plan: plan(0, 101500, 231, 101500), pieces: []int{0, 230, 231}})
}

// longer returns a job and what is asked of it, with further elements behind the ends of all lists.
func longer(j job, a asked) (job, asked) {
	j.tool.Wears = append(slices.Clone(j.tool.Wears), just(97), just(98))
	j.orders = append(slices.Clone(j.orders), api.DieOrder{Pieces: 97}, api.DieOrder{Pieces: 98})
	a.plan, a.pieces = append(slices.Clone(a.plan), plan(97, 98, 99, 98)...), append(slices.Clone(a.pieces), 97, 98)
	return j, a
}

// TestEqualResults is for P2 and R4: equal arguments have equal results, whatever was called before, and no argument is changed, nor what lies behind its end.
func TestEqualResults(t *testing.T) {
	all := slices.Concat(goodJobs(), longTools(), longOrders(), badTools()[:20], []job{mixed()})
	r := dice()
	for range 50 {
		j, _ := anyJob(r)
		all = append(all, j)
	}
	var once [][]any
	for _, j := range all {
		for _, a := range asks() {
			behind, more := longer(j, a)
			before, moreBefore := copyOf(behind), asked{plan: slices.Clone(more.plan), pieces: slices.Clone(more.pieces)}
			part, less := behind, more
			part.tool.Wears, part.orders = part.tool.Wears[:len(j.tool.Wears)], part.orders[:len(j.orders)]
			less.plan, less.pieces = less.plan[:len(a.plan)], less.pieces[:len(a.pieces)]
			once = append(once, allAnswers(part, less, usualLengths()))
			if !reflect.DeepEqual(before, behind) || !slices.Equal(moreBefore.plan, more.plan) || !slices.Equal(moreBefore.pieces, more.pieces) {
				t.Error("an argument has changed", before, behind, moreBefore, more)
			}
		}
	}
	for i, j := range all {
		for k, a := range asks() {
			if again := allAnswers(j, a, usualLengths()); !reflect.DeepEqual(once[i*len(asks())+k], again) {
				t.Error("results differ", j, a, again)
			}
		}
	}
}

// TestNewMemory is for R4: a plan shares no memory with another one.
func TestNewMemory(t *testing.T) {
	j := example()
	first, _ := die.Plan(j.tool, j.orders)
	second, _ := die.Plan(j.tool, j.orders)
	first[0], first[1] = api.DieSetting{From: -1, Target: math.MinInt}, api.DieSetting{}
	third, _ := die.Plan(j.tool, j.orders)
	for _, got := range [][]api.DieSetting{second, third} {
		if !slices.Equal(got, plan(0, 101500, 231, 101500)) {
			t.Error("plans share memory", got)
		}
	}
}

// TestEmpty is for R3: a nil list and an empty one are the same.
func TestEmpty(t *testing.T) {
	empty := job{api.DieTool{Wears: []api.Span{}}, []api.DieOrder{}}
	nothing := asked{to: 1, plan: []api.DieSetting{}, pieces: []int{}}
	if got, want := allAnswers(empty, nothing, usualLengths()), allAnswers(job{}, asked{to: 1}, usualLengths()); !reflect.DeepEqual(got, want) {
		t.Error(got, want)
	}
	if got, want := allAnswers(example(), nothing, usualLengths()), allAnswers(example(), asked{to: 1}, usualLengths()); !reflect.DeepEqual(got, want) {
		t.Error(got, want)
	}
	none := example()
	none.orders = []api.DieOrder{}
	checkAllFail(t, none, api.ErrArg)
}

// TestFull is for R7 and P1: as much as there may be, with numbers as great as they can be.
func TestFull(t *testing.T) {
	whole := span(0, 10000000000)
	j := example(wears(slices.Repeat([]api.Span{span(0, 100000)}, 8)...), set(span(-1000000, 1000000)), scatter(span(-1000000, 1000000)), orders(10000, 7, 0, 10000000000), manyOrders(40))
	// Upward there is room for 9996000000, which 99960 pieces take.
	l := plan(0, 2000000, 99961, 2000000, 199922, 2000000, 299883, 2000000, 399844, 2000000)
	last := len(l) - 1
	a := asked{from: 0, to: 400000, settings: 1000, plan: l, pieces: froms(l)}
	n := lengths{size: span(-20000000000, 20000000000), wrong: span(-1000000, 1000000), zone: whole, shown: 20000000000, steel: 7}
	want := []any{
		api.OK, both(span(0, 40000000000), api.OK), both(api.Span{}, api.ErrState), both(99961, api.OK), both(l, api.OK), both(400000, api.OK), both(400000, api.OK), both(-1, api.OK),
		both(span(19998000000, 20000000000), api.OK), both(0, api.OK),
	}
	if got := allAnswers(j, a, n); !reflect.DeepEqual(got, want) {
		t.Error(got)
	}
	a.from, a.to = l[last].From, 400000
	if got, e := die.Targets(j.tool, j.orders, a.from, a.to); got != span(2000000, 9998000000-155*100000) || e != api.OK {
		t.Error(got, e)
	}
	checkLooks(t, j.tool, just(1000000), 7, whole, 10000)
}
