package die

import (
	"acme/api"
	"acme/exact"
)

// maxSize is how far from 0 a size can be, of a tool or as it was read.
const maxSize = 2 * api.MaxDieAt

func validSize(size api.Span) bool { return exact.ValidSpan(size, -maxSize, maxSize) }

// Learn returns which size a tool can have had.
func Learn(t api.DieTool, size api.Span, shown int, wrong api.Span) (api.Span, api.Errno) {
	if e := checkTool(t); e != api.OK {
		return api.Span{}, e
	}
	if !validSize(size) || !exact.AllFrom(-maxSize, maxSize, shown) || !validErrors(wrong) {
		return api.Span{}, api.ErrArg
	}
	seen := api.Span{Low: shown - wrong.High - t.Scatter.High, High: shown - wrong.Low - t.Scatter.Low}
	had := exact.Common(size, seen)
	if had.Low > had.High {
		return api.Span{}, api.ErrState
	}
	return had, api.OK
}

// Looks returns how many pieces are in a zone.
func Looks(t api.DieTool, size api.Span, steel int, zone api.Span) (int, api.Errno) {
	if e := checkTool(t); e != api.OK {
		return 0, e
	}
	if !validSize(size) || !validZone(zone) {
		return 0, api.ErrArg
	}
	if !hasSteel(t, steel) {
		return 0, api.ErrNone
	}
	// A tool with such a size is as good as one that was set to 0 and is wrong by it.
	t.Set = size
	s := shop{t, []api.DieOrder{{Pieces: api.MaxDiePieces, Steel: steel, Zone: zone}}, api.MaxDiePieces}
	_, looks := s.reach(api.Span{}, 0, s.pieces)
	return looks, api.OK
}
