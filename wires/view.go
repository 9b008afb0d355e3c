package wires

import (
	"iter"

	"acme/api"
	"acme/exact"
)

// parts is how many parts of a unit there are: in these, what wires and a pitch add is an integer.
const parts = 4000

// view is how wires are seen in a truth: at an angle, and with a pitch.
type view struct {
	api.WiresAngle
	pitch int
}

// lift returns how many parts of units wires with such a sum add to the size.
func (v view) lift(sum int) int { return v.Factor*sum - parts/1000*v.Half*v.pitch }

// rise returns how many units wires add to the size. All else is integers, so this may be rounded alone.
func (v view) rise(wires [3]int) int { return v.riseOf(sumOf(wires)) }

func (v view) riseOf(sum int) int { return exact.RoundDown(v.lift(sum), parts) }

// sumOf returns what an instrument feels of wires: the first two share a side, which the third one has alone.
func sumOf(wires [3]int) int { return wires[0] + wires[1] + 2*wires[2] }

// ends returns the thinnest and the thickest wires of a set.
func ends(s api.WiresSet) (thin, thick [3]int) {
	for i, wire := range s.Wires {
		thin[i], thick[i] = wire.Low, wire.High
	}
	return thin, thick
}

// sums yields all sums of wires of a set, in ascending order.
func sums(s api.WiresSet) iter.Seq[int] {
	thin, thick := ends(s)
	step := 1
	if thin[0] == thick[0] && thin[1] == thick[1] {
		// The third wire is counted twice.
		step = 2
	}
	return func(yield func(int) bool) {
		for sum := sumOf(thin); sum <= sumOf(thick); sum += step {
			if !yield(sum) {
				return
			}
		}
	}
}

// trios yields all wires of a set, in ascending order.
func trios(s api.WiresSet) iter.Seq[[3]int] {
	return func(yield func([3]int) bool) {
		for first := range span(s.Wires[0]).integers {
			for second := range span(s.Wires[1]).integers {
				for third := range span(s.Wires[2]).integers {
					if !yield([3]int{first, second, third}) {
						return
					}
				}
			}
		}
	}
}
