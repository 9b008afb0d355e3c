package wires

import (
	"math"

	"acme/api"
	"acme/exact"
)

// Width returns how far apart what is shown can be.
func Width(r api.WiresRules, s api.WiresSet) (api.Ratio, api.Errno) {
	if e := Check(r, []api.WiresSet{s}); e != api.OK {
		return api.Ratio{}, e
	}
	return exact.Ratio(spread(r, s), parts), api.OK
}

// Best returns the set that tells most.
func Best(r api.WiresRules, sets []api.WiresSet) (int, api.Errno) {
	if e := Check(r, sets); e != api.OK {
		return 0, e
	}
	if len(sets) == 0 {
		return 0, api.ErrNone
	}
	best := 0
	for number, s := range sets {
		if spread(r, s) < spread(r, sets[best]) {
			best = number
		}
	}
	return best, api.OK
}

// spread returns how many parts of units the greatest value is greater than the least one.
func spread(r api.WiresRules, s api.WiresSet) int {
	thin, thick := ends(s)
	least, greatest := math.MaxInt, math.MinInt
	for _, angle := range r.Angles {
		least = min(least, view{angle, r.Pitch.High}.lift(sumOf(thin)))
		greatest = max(greatest, view{angle, r.Pitch.Low}.lift(sumOf(thick)))
	}
	return greatest - least + parts*(span(r.Press).width()+span(r.Error).width())
}
