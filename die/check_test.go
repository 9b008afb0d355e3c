package die_test

import (
	"math"
	"slices"
	"testing"

	"acme/api"
	"acme/die"
)

// goodJobs returns jobs that are as they should be, with each limit reached; all have the piece 1.
func goodJobs() []job {
	return []job{
		example(), tap(), example(manyOrders(40)), tap(manyOrders(1)), example(manyOrders(1), wears(just(0))),
		example(orders(10000, 0, 0, 10000000000)), example(orders(1, 1, 0, 0, 1, 0, 10000000000, 10000000000)), example(orders(10000, 1, 5, 5), manyOrders(40)),
		example(set(span(-1000000, 1000000)), scatter(span(-1000000, 1000000))), tap(set(just(-1000000)), scatter(just(1000000))), example(set(just(1000000)), scatter(just(-1000000))), example(set(just(0)), scatter(just(0))),
		example(wears(slices.Repeat([]api.Span{span(0, 100000)}, 8)...)), example(wears(slices.Repeat([]api.Span{just(100000)}, 8)...), orders(3, 7, 0, 1)), tap(wears(just(0), span(99999, 100000))),
	}
}

// longTools returns jobs with too many steels, with and without further errors.
func longTools() []job {
	many := wears(make([]api.Span, 9)...)
	return []job{
		example(many), tap(many), example(wears(make([]api.Span, 5000)...)), example(many, orders()), example(many, manyOrders(41)), example(many, orders(0, 0, 0, 0)), example(many, orders(1, 9, 0, 0)),
		example(many, set(span(1, 0))), example(many, scatter(span(1, 0))), example(wears(slices.Repeat([]api.Span{just(-1)}, 9)...)),
	}
}

// longOrders returns jobs with too many orders, with and without further errors.
func longOrders() []job {
	return []job{
		example(manyOrders(41)), tap(manyOrders(41)), example(manyOrders(5000)), example(manyOrders(41), wears()), example(manyOrders(41), set(span(1, 0))), example(manyOrders(41), wears(just(-1))),
		example(orders(0, 0, 0, 0), manyOrders(41)), example(orders(1, 9, 0, 0), manyOrders(41)), example(manyOrders(41), func(j *job) { j.orders[40].Pieces = 0 }), {orders: make([]api.DieOrder, 41)},
	}
}

// badTools returns jobs whose tools are not valid, and have not too many steels.
func badTools() []job {
	l := []job{{}, {tool: api.DieTool{Down: true}}, example(wears()), tap(wears())}
	for _, s := range badSpans(-1000000, 1000000) {
		l = append(l, example(set(s)), tap(set(s)), example(scatter(s)), tap(scatter(s)))
	}
	for _, s := range badSpans(0, 100000) {
		l = append(l, example(wears(s)), tap(wears(s)), example(wears(s, just(0))), example(wears(just(0), s)), example(wears(append(make([]api.Span, 7), s)...)))
	}
	return l
}

// badOrders returns orders with an error, each alone, for tools with two steels.
func badOrders(want api.Errno) []api.DieOrder {
	zone := span(100000, 110000)
	var l []api.DieOrder
	if want == api.ErrNone {
		for _, n := range append(outside(0, 1), 8) {
			l = append(l, api.DieOrder{Pieces: 5, Steel: n, Zone: zone}, api.DieOrder{Pieces: 10000, Steel: n})
		}
		return l
	}
	// A steel that there is not comes later.
	for _, steel := range []int{0, 1, 2, -1, math.MinInt} {
		for _, n := range outside(1, 10000) {
			l = append(l, api.DieOrder{Pieces: n, Steel: steel, Zone: zone})
		}
		for _, s := range badSpans(0, 10000000000) {
			l = append(l, api.DieOrder{Pieces: 5, Steel: steel, Zone: s})
		}
	}
	return l
}

// TestCheck is for P7.1: the errors of tools, and those of the number of orders.
func TestCheck(t *testing.T) {
	for i, c := range []struct {
		jobs []job
		want api.Errno
	}{
		{goodJobs(), api.OK}, {longTools(), api.ErrLong}, {longOrders(), api.ErrLong}, {badTools(), api.ErrArg}, {[]job{example(orders()), tap(orders())}, api.ErrArg},
	} {
		for k, j := range c.jobs {
			if e := die.Check(j.tool, j.orders); e != c.want {
				t.Error(i, k, j, e)
			}
		}
	}
}

// asked is all that is asked of a job, but of tools alone.
type asked struct {
	from, to, settings int
	plan               []api.DieSetting
	pieces             []int
}

// usual returns what all jobs of two pieces can be asked.
func usual() asked {
	return asked{from: 0, to: 1, settings: 1, plan: plan(0, 101500, 1, 101500), pieces: []int{0, 1}}
}

// wrongAsked returns what no job can be asked.
func wrongAsked() []asked {
	return []asked{
		{from: 1, to: 0, settings: -1, plan: plan(0, math.MaxInt), pieces: []int{-1}},
		{from: -1, to: -1, settings: 1001, plan: everyPiece(1001, 0), pieces: upTo(1001)},
		{from: math.MinInt, to: math.MaxInt, settings: math.MinInt, plan: plan(-1, 0), pieces: []int{1, 0}},
	}
}

// answer is whether all results are zero values, and the error.
type answer struct {
	zero bool
	e    api.Errno
}

func failed(e api.Errno) answer { return answer{zero: true, e: e} }

func valueAnswer[T comparable](value T, e api.Errno) answer {
	var zero T
	return answer{zero: value == zero, e: e}
}

func listAnswer[T any](l []T, e api.Errno) answer { return answer{zero: l == nil, e: e} }

// answers returns what all functions with orders answer.
func answers(j job, a asked) map[string]answer {
	return map[string]answer{
		"Check":   failed(die.Check(j.tool, j.orders)),
		"Wear":    valueAnswer(die.Wear(j.tool, j.orders, a.from, a.to)),
		"Targets": valueAnswer(die.Targets(j.tool, j.orders, a.from, a.to)),
		"Reach":   valueAnswer(die.Reach(j.tool, j.orders, a.from)),
		"Plan":    listAnswer(die.Plan(j.tool, j.orders)),
		"Most":    valueAnswer(die.Most(j.tool, j.orders, a.settings)),
		"Judge":   valueAnswer(die.Judge(j.tool, j.orders, a.plan)),
		"Proves":  valueAnswer(die.Proves(j.tool, j.orders, a.pieces)),
	}
}

// checkAllFail reports what is not the error that all functions with orders must return.
func checkAllFail(t *testing.T, j job, want api.Errno) {
	t.Helper()
	for _, a := range append(wrongAsked(), usual()) {
		for name, got := range answers(j, a) {
			if got != failed(want) {
				t.Error(name, j, a, got, want)
			}
		}
	}
}

// TestJobFirst is for P7.1, P1 and R2: the errors of a tool and of orders come before all others, and with them the results are zero.
func TestJobFirst(t *testing.T) {
	for want, l := range map[api.Errno][]job{api.ErrLong: slices.Concat(longTools(), longOrders()), api.ErrArg: badTools()} {
		for _, j := range l {
			checkAllFail(t, j, want)
		}
	}
	for _, j := range badTools() {
		orders()(&j)
		checkAllFail(t, j, api.ErrArg)
		// The tool comes before orders.
		orders(1, 99, 0, 0)(&j)
		checkAllFail(t, j, api.ErrArg)
	}
	checkAllFail(t, example(orders()), api.ErrArg)
	checkAllFail(t, tap(orders()), api.ErrArg)
	for _, j := range goodJobs() {
		for name, got := range answers(j, usual()) {
			if got.e != api.OK && got.e != api.ErrState && got.e != api.ErrNone {
				t.Error(name, j, got)
			}
		}
	}
}

// TestOrders is for P7.1: the first order with an error decides, and of its errors what is not valid.
func TestOrders(t *testing.T) {
	good := example().orders
	for _, want := range []api.Errno{api.ErrNone, api.ErrArg} {
		others := badOrders(api.ErrNone + api.ErrArg - want)
		for _, bad := range badOrders(want) {
			for _, l := range [][]api.DieOrder{
				{bad}, {good[0], bad}, {good[0], bad, good[1]}, {bad, others[0]}, {good[1], bad, others[1], others[2]}, append(slices.Repeat(good, 19), good[0], bad),
			} {
				j := example(func(j *job) { j.orders = l })
				for name, got := range answers(j, usual()) {
					if got != failed(want) {
						t.Error(name, j, got, want)
					}
				}
				j.tool.Down = true
				checkAllFail(t, j, want)
			}
		}
	}
}

// TestSteels is for P7.1: each steel is one of this tool's.
func TestSteels(t *testing.T) {
	for steels := 1; steels <= 8; steels++ {
		tool := wears(make([]api.Span, steels)...)
		last := example(tool, orders(1, steels-1, 0, 0))
		if e := die.Check(last.tool, last.orders); e != api.OK {
			t.Error(steels, e)
		}
		checkAllFail(t, example(tool, orders(1, steels, 0, 0)), api.ErrNone)
	}
}

// toolAnswers returns what all functions of a tool alone answer.
func toolAnswers(tool api.DieTool, size api.Span, shown int, wrong api.Span, steel int, zone api.Span) map[string]answer {
	return map[string]answer{
		"Learn": valueAnswer(die.Learn(tool, size, shown, wrong)),
		"Looks": valueAnswer(die.Looks(tool, size, steel, zone)),
	}
}

// TestToolFirst is for P7.1, P1 and R2: the errors of a tool come before all others of Learn and Looks.
func TestToolFirst(t *testing.T) {
	for want, l := range map[api.Errno][]job{api.ErrLong: longTools(), api.ErrArg: badTools()} {
		for _, j := range l {
			for _, got := range []map[string]answer{
				toolAnswers(j.tool, span(100000, 105000), 103000, just(0), 0, span(100000, 110000)),
				toolAnswers(j.tool, span(1, 0), math.MaxInt, span(1, 0), -1, span(1, 0)),
				toolAnswers(j.tool, just(0), 5000000, just(0), 99, just(0)),
			} {
				for name, a := range got {
					if a != failed(want) {
						t.Error(name, j, a, want)
					}
				}
			}
		}
	}
	for _, j := range goodJobs() {
		for name, a := range toolAnswers(j.tool, just(100000), 100000, span(-1000000, 1000000), 0, just(0)) {
			if a.e != api.OK {
				t.Error(name, j, a)
			}
		}
	}
}
