package gauge

import (
	"slices"

	"acme/api"
)

// Wrong returns the first event that contradicts those before it.
func Wrong(r api.GaugeRules, l []api.GaugeEvent) (at int, e api.Errno) {
	if e := checkHistory(r, l); e != api.OK {
		return 0, e
	}
	p := plugOf(r)
	for number := range l {
		if p.contradicts(l[:number+1]) {
			return number, api.OK
		}
	}
	return -1, api.OK
}

// Doubt returns the checks without one of which nothing contradicts.
func Doubt(r api.GaugeRules, l []api.GaugeEvent) ([]int, api.Errno) {
	if e := checkHistory(r, l); e != api.OK {
		return nil, e
	}
	p := plugOf(r)
	if !p.contradicts(l) {
		return nil, api.ErrNone
	}
	var checks []int
	for number, event := range l {
		if kindOf(event) != tried && !p.contradicts(slices.Concat(l[:number], l[number+1:])) {
			checks = append(checks, number)
		}
	}
	return checks, api.OK
}
