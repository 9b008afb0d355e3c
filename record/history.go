package record

import (
	"cmp"

	"acme/api"
	"acme/exact"
	"acme/gauge"
)

// event is an event of a history.
type event struct{ api.RecordEvent }

func (v event) valid() bool {
	return exact.AllFrom(0, api.MaxRecordDay, v.Day) && exact.AllFrom(0, api.MaxRecordNumber, v.Gauge, v.Number) && validDeed(v.Event)
}

// validDeed reports whether a gauge with as many masters as there can be may have done this.
func validDeed(did api.GaugeEvent) bool {
	if did.Master == api.GaugeNone {
		return exact.AllFrom(1, api.MaxGaugePieces, did.Pieces) && !did.Goes
	}
	return exact.AllFrom(0, api.MaxGaugeMasters-1, did.Master) && did.Pieces == 0
}

func (v event) compare(o api.RecordEvent) int {
	return cmp.Or(cmp.Compare(v.Day, o.Day), cmp.Compare(v.Gauge, o.Gauge), cmp.Compare(v.Number, o.Number))
}

// follows reports whether an event can be the next one of a history.
func (v event) follows(l []api.RecordEvent) bool {
	return len(l) == 0 || v.compare(l[len(l)-1]) > 0
}

// checkHistory returns the first error of a history, and the number of its event.
func checkHistory(l []api.RecordEvent) (at int, e api.Errno) {
	if len(l) > api.MaxRecordEvents {
		return 0, api.ErrLong
	}
	for number, v := range l {
		now := event{v}
		if !now.valid() {
			return number, api.ErrArg
		}
		if !now.follows(l[:number]) {
			return number, api.ErrForm
		}
	}
	return 0, api.OK
}

// eventsOf returns what one gauge did up to a day.
func eventsOf(l []api.RecordEvent, number, day int) []api.GaugeEvent {
	var did []api.GaugeEvent
	for _, v := range l {
		if v.Gauge == number && v.Day <= day {
			did = append(did, v.Event)
		}
	}
	return did
}

func sizeAfter(r api.GaugeRules, did []api.GaugeEvent) (api.Span, api.Errno) {
	return gauge.Size(r, did)
}
