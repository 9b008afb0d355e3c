package lot

import (
	"iter"

	"acme/api"
	"acme/exact"
)

// mix is how many pieces of each kind there are.
type mix [api.MaxLotKinds]int

// mixes yields all mixes of so many pieces of so many kinds.
func mixes(pieces, kinds int) iter.Seq[mix] {
	return func(yield func(mix) bool) { mix{}.filled(pieces, kinds-1, yield) }
}

// filled yields the mix with so many more pieces, of the kinds up to the last one. It reports whether more mixes are wanted.
func (m mix) filled(pieces, last int, yield func(mix) bool) bool {
	if last == 0 {
		m[0] = pieces
		return yield(m)
	}
	for count := range pieces + 1 {
		m[last] = count
		if !m.filled(pieces-count, last-1, yield) {
			return false
		}
	}
	return true
}

// shows reports whether of a mix of so many pieces as many can go as went, gauge by gauge.
func (g gauges) shows(m mix, pieces int, went ...int) bool {
	for gauge, can := range g {
		sure := pieces - can[api.LotNo].pieces(m[:]...)
		if !exact.AllFrom(sure, can[api.LotYes].pieces(m[:]...), went[gauge]) {
			return false
		}
	}
	return true
}

// Counts returns what a lot can be made of.
func Counts(g api.LotGauges, pieces int, went []int) ([]api.Span, api.Errno) {
	said, e := gaugesOf(g)
	if e != api.OK {
		return nil, e
	}
	if !exact.AllFrom(0, api.MaxLotPieces, pieces) {
		return nil, api.ErrRange
	}
	if len(went) != len(said) {
		return nil, api.ErrForm
	}
	var spans []api.Span
	for m := range mixes(pieces, len(g)) {
		if said.shows(m, pieces, went...) {
			spans = widened(spans, m[:len(g)]...)
		}
	}
	if spans == nil {
		return nil, api.ErrState
	}
	return spans, api.OK
}

// widened returns spans that hold some counts, too. At first there are no spans.
func widened(spans []api.Span, counts ...int) []api.Span {
	if spans == nil {
		for _, count := range counts {
			spans = append(spans, api.Span{Low: count, High: count})
		}
	}
	for kind, count := range counts {
		spans[kind] = api.Span{Low: min(spans[kind].Low, count), High: max(spans[kind].High, count)}
	}
	return spans
}
