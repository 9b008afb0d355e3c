package record

import (
	"iter"
	"slices"

	"acme/api"
)

// block is the bytes of a record.
type block [api.RecordSize]byte

// The places of a record.
const (
	dayHigh = iota
	dayLow
	gaugeAt
	numberAt
	masterAt
	goesAt
	piecesHigh
	piecesMiddle
	piecesLow
	checkAt
)

// block returns the record of an event that is valid.
func (v event) block() block {
	did := v.Event
	b := block{
		dayHigh: byte(v.Day >> 8), dayLow: byte(v.Day),
		gaugeAt: byte(v.Gauge), numberAt: byte(v.Number),
		// No master comes just before the first one.
		masterAt:   byte(did.Master - api.GaugeNone),
		piecesHigh: byte(did.Pieces >> 16), piecesMiddle: byte(did.Pieces >> 8), piecesLow: byte(did.Pieces),
	}
	if did.Goes {
		b[goesAt] = 1
	}
	b[checkAt] = b.check()
	return b
}

// check returns what the check of a record must be.
func (b block) check() byte {
	sum := 0
	for place, value := range b[:checkAt] {
		sum += (2*place + 1) * int(value)
	}
	return byte(sum)
}

// event returns the event of a record, whether it is valid or not.
func (b block) event() event {
	return event{api.RecordEvent{
		Day:    int(b[dayHigh])<<8 | int(b[dayLow]),
		Gauge:  int(b[gaugeAt]),
		Number: int(b[numberAt]),
		Event: api.GaugeEvent{
			Pieces: int(b[piecesHigh])<<16 | int(b[piecesMiddle])<<8 | int(b[piecesLow]),
			Master: int(b[masterAt]) + api.GaugeNone,
			Goes:   b[goesAt] == 1,
		},
	}}
}

// eventIn returns the event that some bytes are the record of.
func eventIn(bytes []byte) (event, api.Errno) {
	if len(bytes) < api.RecordSize {
		return event{}, api.ErrRecordCut
	}
	b := block(bytes)
	if b[checkAt] != b.check() {
		return event{}, api.ErrRecordSum
	}
	v := b.event()
	// A valid event has one record only: bytes that no event has (Goes is neither 0 nor 1) are those of none.
	if !v.valid() || v.block() != b {
		return event{}, api.ErrArg
	}
	return v, api.OK
}

// records yields the event of each record of a log, or the error of the record by itself.
func records(log []byte) iter.Seq2[event, api.Errno] {
	return func(yield func(event, api.Errno) bool) {
		for bytes := range slices.Chunk(log, api.RecordSize) {
			if !yield(eventIn(bytes)) {
				return
			}
		}
	}
}
