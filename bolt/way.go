package bolt

import (
	"slices"

	"acme/api"
	"acme/exact"
)

// validWays reports whether all ways are as they should be.
func validWays(ways ...api.BoltWay) bool {
	wrong := func(w api.BoltWay) bool { return !validWay(w) }
	return !slices.ContainsFunc(ways, wrong)
}

func validWay(w api.BoltWay) bool {
	switch w.Kind {
	case api.BoltTorque:
		return validTorque(w.Torque) && unused(w.Angle, w.Stretch)
	case api.BoltAngle:
		return validTorque(w.Torque) && exact.ValidSpan(w.Angle, 0, api.MaxBoltAngle) && unused(w.Stretch)
	case api.BoltStretch:
		return exact.ValidSpan(w.Stretch, 0, api.MaxBoltStretch) && unused(w.Torque, w.Angle)
	}
	return false
}

func validTorque(torque api.Span) bool { return exact.ValidSpan(torque, 0, api.MaxBoltTorque) }

// unused reports whether all spans are zero.
func unused(spans ...api.Span) bool { return exact.ValidSpans(0, 0, spans...) }
