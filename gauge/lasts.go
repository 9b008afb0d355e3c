package gauge

import (
	"slices"

	"acme/api"
	"acme/exact"
)

// Beyond reports whether a gauge is beyond a limit.
func Beyond(r api.GaugeRules, l []api.GaugeEvent, limit int) (surely, possibly bool, e api.Errno) {
	if e := checkLimit(r, l, limit); e != api.OK {
		return false, false, e
	}
	p := plugOf(r)
	known, e := p.after(l)
	if e != api.OK {
		return false, false, e
	}
	size, least := known.gauge(), p.length(limit)
	return size.High < least, size.Low < least, api.OK
}

// Lasts returns on how many pieces a gauge can be tried yet.
func Lasts(r api.GaugeRules, l []api.GaugeEvent, limit int) (pieces int, e api.Errno) {
	if e := checkLimit(r, l, limit); e != api.OK {
		return 0, e
	}
	p := plugOf(r)
	known, e := p.after(l)
	if e != api.OK {
		return 0, e
	}
	return known.lasts(p.length(limit))
}

// lasts returns on how many pieces the plug can be tried until it can be smaller than least, or ErrNone if it can be so already.
func (t truths) lasts(least int) (int, api.Errno) {
	room := t.gauge().Low - least
	if room < 0 {
		return 0, api.ErrNone
	}
	return t.pieces(room), api.OK
}

// Gain returns on how many pieces it can be tried after a check.
func Gain(r api.GaugeRules, l []api.GaugeEvent, limit, master int) (least, most int, e api.Errno) {
	if e := checkLimit(r, l, limit); e != api.OK {
		return 0, 0, e
	}
	if !hasMaster(r, master) {
		return 0, 0, api.ErrNone
	}
	p := plugOf(r)
	if p.contradicts(l) {
		return 0, 0, api.ErrState
	}
	least = api.MaxGaugePieces
	for _, goes := range [2]bool{false, true} {
		check := api.GaugeEvent{Master: master, Goes: goes}
		known, e := p.after(slices.Concat(l, []api.GaugeEvent{check}))
		if e != api.OK {
			continue
		}
		// With ErrNone it lasts for 0 pieces, as it should here.
		pieces, _ := known.lasts(p.length(limit))
		least, most = min(least, pieces), max(most, pieces)
	}
	return least, most, api.OK
}

// Plan returns the zone of a new gauge that has to last for some pieces.
func Plan(ring bool, wear api.Span, pieces, wide, limit int) (api.Span, api.Errno) {
	if !validSpans(api.MaxGaugeWear, wear) {
		return api.Span{}, api.ErrArg
	}
	if !exact.AllFrom(0, api.MaxGaugePieces, pieces) || !exact.AllFrom(0, api.MaxGaugeWide, wide) || !exact.AllFrom(0, api.MaxLength, limit) {
		return api.Span{}, api.ErrRange
	}
	p := plug{api.GaugeRules{Ring: ring, Wear: wear}}
	low := p.length(limit) + p.worn(pieces).High
	zone := api.Span{Low: low, High: low + wide}
	if !validSpans(api.MaxLength, zone) {
		return api.Span{}, api.ErrState
	}
	return p.turned(zone), api.OK
}
