package flange

import "acme/api"

// Retouch returns the fewest bolts that are to be tightened once more.
func Retouch(r api.FlangeRules, plan []api.FlangeStep, torque int) ([]int, api.Errno) {
	f, now, e := after(r, plan)
	if e != api.OK {
		return nil, e
	}
	alone, e := f.alone(torque)
	if e != api.OK {
		return nil, e
	}
	for count := range api.MaxFlangeRetouch + 1 {
		if numbers, found := f.retouched(now, alone, count); found {
			return numbers, api.OK
		}
	}
	return nil, api.ErrState
}

// retouched returns the smallest list of so many bolts with which the flange is tight and all of it is safe, if there is one.
func (f flange) retouched(now state, alone api.Span, count int) (numbers []int, found bool) {
	if count == 0 {
		return nil, f.tight(now) && f.safe(now)
	}
	for number := range f.Bolts {
		if rest, found := f.retouched(f.tightened(now, number, alone), alone, count-1); found {
			return append([]int{number}, rest...), true
		}
	}
	return nil, false
}
