package exact

import "acme/api"

// Heights are those of a depth, at which flanks can touch one another.
type Heights struct{ api.Span }

// Valid reports whether the heights are those of a depth.
func (h Heights) Valid() bool {
	return ValidSpan(h.Span, -api.MaxThreadDepth, api.MaxThreadDepth)
}

// Overlap returns how far a flank of a screw sticks out over one of a nut, if both are at the same place at the pitch line, in thousandths of a unit; below 0, it stays away. Flanks are straight, so it is farthest at one end of the depth.
func (h Heights) Overlap(screwLean, nutLean int) int {
	return max(h.Low*(nutLean-screwLean), h.High*(nutLean-screwLean))
}
