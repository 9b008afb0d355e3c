package zone

import (
	"acme/api"
	"acme/exact"
)

// Groups returns in how few groups screws and nuts must be sorted.
func Groups(screw, nut, want api.Span) (int, api.Errno) {
	if !exact.ValidSpan(screw, 0, 2*api.MaxLength) || !exact.ValidSpan(nut, 0, 2*api.MaxLength) ||
		!exact.ValidSpan(want, -4*api.MaxLength, 4*api.MaxLength) {
		return 0, api.ErrArg
	}
	for fewer := range api.MaxZoneGroups {
		groups := fewer + 1
		if sortedIn(groups, span{screw}, span{nut}, span{want}) {
			return groups, api.OK
		}
	}
	return 0, api.ErrNone
}

// sortedIn reports whether no group is empty, and all plays of each group of screws with its nuts are wanted.
func sortedIn(groups int, screws, nuts, want span) bool {
	for number := range groups {
		s, n := screws.group(number, groups), nuts.group(number, groups)
		if s.empty() || n.empty() || !s.playIn(n).within(want) {
			return false
		}
	}
	return true
}

// group returns the diameters of a span that belong to one of its groups.
func (s span) group(number, groups int) span {
	diameters := s.High - s.Low + 1
	start := func(number int) int { return s.Low + exact.RoundDown(number*diameters, groups) }
	return spanOf(start(number), start(number+1)-1)
}
