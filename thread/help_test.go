package thread_test

import (
	"math"
	"math/big"

	"acme/api"
)

// change is a change of a form.
type change func(f *api.ThreadForm)

// metric returns the form of the chapter's examples, changed.
func metric(changes ...change) api.ThreadForm {
	f := api.ThreadForm{Pitch: 10000, Left: 577, Right: 577, Above: 3000, Below: 3000, Starts: 1}
	for _, c := range changes {
		c(&f)
	}
	return f
}

func pitch(n int) change  { return func(f *api.ThreadForm) { f.Pitch = n } }
func left(n int) change   { return func(f *api.ThreadForm) { f.Left = n } }
func right(n int) change  { return func(f *api.ThreadForm) { f.Right = n } }
func above(n int) change  { return func(f *api.ThreadForm) { f.Above = n } }
func below(n int) change  { return func(f *api.ThreadForm) { f.Below = n } }
func starts(n int) change { return func(f *api.ThreadForm) { f.Starts = n } }
func taper(n int) change  { return func(f *api.ThreadForm) { f.Taper = n } }
func leftHand() change    { return func(f *api.ThreadForm) { f.LeftHand = true } }

func leans(l, r int) change {
	return func(f *api.ThreadForm) { f.Left, f.Right = l, r }
}

func heights(b, a int) change {
	return func(f *api.ThreadForm) { f.Below, f.Above = b, a }
}

func ratio(num, den int) api.Ratio { return api.Ratio{Num: num, Den: den} }

func span(low, high int) api.Span { return api.Span{Low: low, High: high} }

// fraction returns num / den of large numbers, to compute what is expected in a way of its own.
func fraction(num, den int) *big.Rat { return big.NewRat(int64(num), int64(den)) }

// value returns the value of a ratio that has to be in lowest terms, or nil if it is not.
func value(r api.Ratio) *big.Rat {
	if r.Den <= 0 {
		return nil
	}
	v := fraction(r.Num, r.Den)
	if v.Num().Int64() != int64(r.Num) || v.Denom().Int64() != int64(r.Den) {
		return nil
	}
	return v
}

// is reports whether a ratio is in lowest terms and has the value that is expected.
func is(r api.Ratio, want *big.Rat) bool {
	v := value(r)
	return v != nil && v.Cmp(want) == 0
}

// extremes are numbers for which careless arithmetic does not fit.
func extremes() []int {
	return []int{math.MinInt, math.MinInt + 1, -1 << 40, -1, 0, 1, 1 << 40, math.MaxInt - 1, math.MaxInt}
}

// forms returns forms of all sorts: narrow and wide, steep and flat, with limits that are reached.
func forms() []api.ThreadForm {
	return []api.ThreadForm{
		metric(),
		metric(pitch(10100)),
		metric(leans(600, 600)),
		metric(leans(0, 0), heights(200000, 200000)),
		metric(leans(0, 1154)),
		metric(leans(1, 0), heights(1, 0)),
		metric(leans(3000, 3000), heights(833, 833), starts(8), leftHand()),
		metric(leans(30, 1000), heights(4854, 7), taper(63)),
		metric(heights(0, 4332), starts(3), taper(1)),
		metric(pitch(100), leans(999, 3), heights(49, 48), taper(100)),
		metric(pitch(101), leans(505, 505), heights(50, 50), leftHand(), taper(7)),
		metric(pitch(200000), leans(250, 250), heights(200000, 199999), starts(5)),
		metric(pitch(25400), leans(521, 520), heights(8129, 8126), leftHand(), starts(2), taper(31)),
	}
}
