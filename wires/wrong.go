package wires

// wrong returns the sets of the fewest numbers without which the readings agree, in ascending order.
func (o office) wrong() [][]int {
	var found [][]int
	// A reading agrees with some size where it is alone, so the last one need not be left out.
	for fewest := 0; len(found) == 0 && fewest < len(o.readings); fewest++ {
		for _, out := range choices(0, len(o.readings), fewest) {
			if o.agree(but(out...)) {
				found = append(found, out)
			}
		}
	}
	return found
}

// agree reports whether the readings that are kept agree with some size.
func (o office) agree(kept func(number int) bool) bool {
	for _, v := range o.views() {
		if len(o.agreed(v, kept)) > 0 {
			return true
		}
	}
	return false
}

// choices returns all ascending lists of some numbers from first on, and below end, in ascending order.
func choices(first, end, count int) [][]int {
	if count == 0 {
		return [][]int{nil}
	}
	var l [][]int
	for number := first; number < end; number++ {
		for _, rest := range choices(number+1, end, count-1) {
			l = append(l, append([]int{number}, rest...))
		}
	}
	return l
}
