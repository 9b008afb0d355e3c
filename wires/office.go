package wires

import (
	"iter"
	"slices"

	"acme/api"
	"acme/exact"
)

// reading is what was shown with a set.
type reading struct {
	api.WiresSet
	shown int
}

// office is rules, readings, and what is known of them: with which sizes each one agrees in a view.
type office struct {
	api.WiresRules
	readings []reading
	known    map[view][]sizes
}

// officeOf returns the office of readings, or the error of rules and sets, or that of readings.
func officeOf(r api.WiresRules, sets []api.WiresSet, l []api.WiresReading) (office, api.Errno) {
	if e := Check(r, sets); e != api.OK {
		return office{}, e
	}
	if e := checkReadings(sets, l); e != api.OK {
		return office{}, e
	}
	o := office{WiresRules: r, known: map[view][]sizes{}}
	for _, was := range l {
		o.readings = append(o.readings, reading{sets[was.Set], was.Shown})
	}
	return o, api.OK
}

func checkReadings(sets []api.WiresSet, l []api.WiresReading) api.Errno {
	if len(l) == 0 {
		return api.ErrNone
	}
	if len(l) > api.MaxWiresReadings {
		return api.ErrLong
	}
	before := -1
	for _, was := range l {
		switch {
		case !exact.AllFrom(0, len(sets)-1, was.Set):
			return api.ErrNone
		case !exact.AllFrom(-api.MaxLength, api.MaxLength, was.Shown):
			return api.ErrArg
		case was.Set <= before:
			return api.ErrForm
		}
		before = was.Set
	}
	return api.OK
}

// views yields each view of the rules with the number of its angle, in ascending order.
func (o office) views() iter.Seq2[int, view] {
	return func(yield func(int, view) bool) {
		for number, angle := range o.Angles {
			for pitch := range span(o.Pitch).integers {
				if !yield(number, view{angle, pitch}) {
					return
				}
			}
		}
	}
}

// in returns with which sizes each reading agrees in a view.
func (o office) in(v view) []sizes {
	if _, ok := o.known[v]; !ok {
		for _, was := range o.readings {
			o.known[v] = append(o.known[v], o.sizesOf(was, v))
		}
	}
	return o.known[v]
}

// sizesOf returns with which sizes a reading agrees in a view.
func (o office) sizesOf(was reading, v view) sizes {
	var spans []api.Span
	for sum := range sums(was.WiresSet) {
		size := was.shown - v.riseOf(sum)
		spans = append(spans, api.Span{Low: size + o.Press.Low - o.Error.High, High: size + o.Press.High - o.Error.Low})
	}
	return joined(spans)
}

// but returns the condition that a reading has none of some numbers.
func but(out ...int) func(number int) bool {
	return func(number int) bool { return !slices.Contains(out, number) }
}

// agreed returns with which sizes all readings that are kept agree in a view.
func (o office) agreed(v view, kept func(number int) bool) sizes {
	agreed := allSizes()
	for number, l := range o.in(v) {
		if kept(number) {
			agreed = agreed.and(l)
		}
	}
	return agreed
}

// possible returns with which sizes all readings agree, or ErrState if there is none.
func (o office) possible() (sizes, api.Errno) {
	var spans []api.Span
	for _, v := range o.views() {
		spans = append(spans, o.agreed(v, but())...)
	}
	if len(spans) == 0 {
		return nil, api.ErrState
	}
	return joined(spans), api.OK
}

// truths returns the smallest truths with which the readings agree with a size; there are some.
func (o office) truths(size int) []api.WiresTruth {
	for angle, v := range o.views() {
		if !o.agreed(v, but()).has(size) {
			continue
		}
		var l []api.WiresTruth
		for _, was := range o.readings {
			truth := o.truth(was, v, size)
			truth.Angle = angle
			l = append(l, truth)
		}
		return l
	}
	return nil
}

// truth returns the smallest truth of a reading in a view with a size, but for the number of its angle; there is one.
func (o office) truth(was reading, v view, size int) api.WiresTruth {
	for wires := range trios(was.WiresSet) {
		more := was.shown - size - v.rise(wires) // by how much the error is greater than the press
		press := max(o.Press.Low, o.Error.Low-more)
		if press <= min(o.Press.High, o.Error.High-more) {
			return api.WiresTruth{Size: size, Pitch: v.pitch, Wires: wires, Press: press, Error: press + more}
		}
	}
	return api.WiresTruth{}
}
