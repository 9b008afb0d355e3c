package fit

import (
	"slices"

	"acme/api"
	"acme/exact"
)

// Goers returns which screws go into which nuts.
func Goers(screws, nuts []api.FitThread, depth api.Span) ([][2]int, api.Errno) {
	if len(screws) > api.MaxFitLot || len(nuts) > api.MaxFitLot {
		return nil, api.ErrLong
	}
	if e := checkAll(depth, slices.Concat(screws, nuts)...); e != api.OK {
		return nil, e
	}
	byTurns := map[int][]int{}
	for number, nut := range nuts {
		byTurns[len(nut.Turns)] = append(byTurns[len(nut.Turns)], number)
	}
	var pairs [][2]int
	for number, screw := range screws {
		for _, nut := range byTurns[len(screw.Turns)] {
			if fits(screw, nuts[nut], depth) {
				pairs = append(pairs, [2]int{number, nut})
			}
		}
	}
	return pairs, api.OK
}

// fits reports whether a screw goes into a nut with as many turns; both and the depth are valid.
func fits(screw, nut api.FitThread, depth api.Span) bool {
	return mesh{exact.Heights{Span: depth}, pieceOf(screw), pieceOf(nut)}.wholeRoom() >= 0
}
