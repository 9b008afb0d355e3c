package mill

import (
	"iter"

	"acme/api"
	"acme/exact"
)

// hours are some hours of one machine: those of a run, or of a lot.
type hours struct{ api.MillLot }

func (h hours) valid() bool {
	return exact.AllFrom(0, api.MaxMillNumber, h.Machine) && exact.ValidSpan(api.Span{Low: h.From, High: h.To}, 0, api.MaxMillHour)
}

// run is what a machine did, with which coil and which die.
type run struct{ api.MillRun }

func (r run) hours() hours {
	return hours{api.MillLot{Machine: r.Machine, From: r.From, To: r.To}}
}

func (r run) valid() bool {
	return r.hours().valid() && exact.AllFrom(0, api.MaxMillNumber, r.Coil, r.Die)
}

// meets reports whether a run is in one of some hours.
func (r run) meets(h hours) bool {
	return r.Machine == h.Machine && r.From <= h.To && h.From <= r.To
}

// causes yields all causes that what was made in some hours has of a run.
func (r run) causes(h hours) iter.Seq[api.MillCause] {
	return func(yield func(api.MillCause) bool) {
		if !r.meets(h) || !yield(api.MillCause{Kind: api.MillCoil, Number: r.Coil}) || !yield(api.MillCause{Kind: api.MillDie, Number: r.Die}) {
			return
		}
		for hour := max(r.From, h.From); hour <= min(r.To, h.To); hour++ {
			if !yield(api.MillCause{Kind: api.MillHour, Machine: r.Machine, Number: hour}) {
				return
			}
		}
	}
}
