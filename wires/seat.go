package wires

import (
	"acme/api"
	"acme/exact"
	"acme/thread"
)

// Seat returns where a wire touches the flanks, where its top is, and whether it seats.
func Seat(f api.ThreadForm, a api.WiresAngle, wire int) (touch, top api.Ratio, seats bool, e api.Errno) {
	if e := thread.Check(f); e != api.OK {
		return api.Ratio{}, api.Ratio{}, false, e
	}
	if !validAngle(a) {
		return api.Ratio{}, api.Ratio{}, false, api.ErrArg
	}
	if !exact.AllFrom(1, api.MaxWiresWire, wire) {
		return api.Ratio{}, api.Ratio{}, false, api.ErrRange
	}
	lifted := a.Factor - 1000
	middle := lifted*wire - a.Half*f.Pitch // in parts, of which a unit has 2000
	touch = exact.Ratio(middle*lifted-1000000*wire, 2000*lifted)
	top = exact.Ratio(middle+1000*wire, 2000)
	seats = !below(touch, -f.Below) && !above(touch, f.Above) && !below(top, f.Above)
	return touch, top, seats, api.OK
}

func below(r api.Ratio, n int) bool { return r.Num < n*r.Den }

func above(r api.Ratio, n int) bool { return r.Num > n*r.Den }
