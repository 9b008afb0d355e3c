package mill

import (
	"iter"
	"slices"

	"acme/api"
	"acme/exact"
)

// orders is a set of orders: the bit of each order's number.
type orders uint

// parts yields all sets that lie within a set and have at least one order.
func (o orders) parts() iter.Seq[orders] {
	return func(yield func(orders) bool) {
		// Without the bits that are not in the set, the number before a set is the next smaller one.
		for part := o; part != 0; part = (part - 1) & o {
			if !yield(part) {
				return
			}
		}
	}
}

// sum returns how much the orders of a set need together.
func (o orders) sum(needs ...int) int {
	sum := 0
	for order, need := range needs {
		if o>>order&1 != 0 {
			sum += need
		}
	}
	return sum
}

// sharing is a coil for each order of a set (0 for the others), and how many coils are used for them.
type sharing struct {
	coils [api.MaxMillOrders]int
	used  int
	found bool
}

// with returns a sharing in which one more coil is used, for the orders of a set.
func (s sharing) with(coil int, part orders) sharing {
	for order := range s.coils {
		if part>>order&1 != 0 {
			s.coils[order] = coil
		}
	}
	s.used++
	return s
}

// better reports whether a sharing of the same orders uses fewer coils, or as many and is smaller.
func (s sharing) better(other sharing) bool {
	if !s.found || !other.found {
		return s.found
	}
	if s.used != other.used {
		return s.used < other.used
	}
	return slices.Compare(s.coils[:], other.coils[:]) < 0
}

// sharings is the best sharing of each set of orders.
type sharings [1 << api.MaxMillOrders]sharing

// widened returns the best sharings if one more coil can be used.
func (l sharings) widened(coil, length int, needs ...int) sharings {
	wider := l
	for all := range orders(1 << len(needs)) {
		for part := range all.parts() {
			if part.sum(needs...) > length {
				continue
			}
			if s := l[all&^part].with(coil, part); s.better(wider[all]) {
				wider[all] = s
			}
		}
	}
	return wider
}

// Share returns from which coil each order is made.
func Share(coils, needs []int) ([]int, api.Errno) {
	if len(coils) > api.MaxMillCoils || len(needs) > api.MaxMillOrders {
		return nil, api.ErrLong
	}
	if !exact.AllFrom(1, api.MaxLength, coils...) || !exact.AllFrom(1, api.MaxLength, needs...) {
		return nil, api.ErrArg
	}
	var best sharings
	best[0].found = true
	for coil, length := range coils {
		best = best.widened(coil, length, needs...)
	}
	whole := best[1<<len(needs)-1]
	if !whole.found {
		return nil, api.ErrNone
	}
	return slices.Clone(whole.coils[:len(needs)]), api.OK
}
