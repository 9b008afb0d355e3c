package gauge

import (
	"acme/api"
	"acme/exact"
)

// plug is the rules of a gauge as those of a plug: the sizes of a ring are turned round.
type plug struct{ api.GaugeRules }

func plugOf(r api.GaugeRules) plug {
	p := plug{api.GaugeRules{Ring: r.Ring, Wear: r.Wear}}
	p.New = p.turned(r.New)
	for _, master := range r.Masters {
		p.Masters = append(p.Masters, p.turned(master))
	}
	return p
}

// length turns a length round if the gauge is a ring. What is turned twice is as before.
func (p plug) length(x int) int {
	if p.Ring {
		return api.MaxLength - x
	}
	return x
}

// turned turns a span round as length does.
func (p plug) turned(s api.Span) api.Span {
	a, b := p.length(s.Low), p.length(s.High)
	return api.Span{Low: min(a, b), High: max(a, b)}
}

// worn returns by how much pieces of one event make the plug smaller.
func (p plug) worn(pieces int) api.Span {
	return api.Span{
		Low:  exact.RoundDown(p.Wear.Low*pieces, 1000),
		High: exact.RoundUp(p.Wear.High*pieces, 1000),
	}
}

// pieces returns on how many pieces, as one event, the plug can be tried so that it surely becomes smaller by no more than room; that is not below 0.
func (p plug) pieces(room int) int {
	if p.Wear.High == 0 {
		return api.MaxGaugePieces
	}
	// The room is an integer, so wear that is rounded up is within it just if it is so before.
	return min(exact.RoundDown(1000*room, p.Wear.High), api.MaxGaugePieces)
}
