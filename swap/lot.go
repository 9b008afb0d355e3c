package swap

import (
	"acme/api"
	"acme/exact"
)

// numbersOf returns the numbers of the standards that are asked for.
func numbersOf(l []api.SwapStandard, asked func(s standard) bool) []int {
	var numbers []int
	for number, s := range l {
		if asked(standard{s}) {
			numbers = append(numbers, number)
		}
	}
	return numbers
}

// Valid returns the standards of a country in a year.
func Valid(l []api.SwapStandard, country, year int) ([]int, api.Errno) {
	if e := Check(l); e != api.OK {
		return nil, e
	}
	if !validCountry(country) || !exact.AllFrom(0, api.MaxSwapYear, year) {
		return nil, api.ErrRange
	}
	return numbersOf(l, func(s standard) bool { return s.valid(country, year) }), api.OK
}

// Lot returns the standards of which a lot can be.
func Lot(l []api.SwapStandard, x api.SwapLot) ([]int, api.Errno) {
	if e := Check(l); e != api.OK {
		return nil, e
	}
	if len(x.Pieces) > api.MaxSwapPieces {
		return nil, api.ErrLong
	}
	if !validLot(x) {
		return nil, api.ErrArg
	}
	return numbersOf(l, func(s standard) bool { return s.made(x) }), api.OK
}

func validLot(x api.SwapLot) bool {
	return (x.Country == api.SwapAny || validCountry(x.Country)) && validYears(x.Years) &&
		exact.ValidSpan(x.Pitch, 0, api.MaxLength) && validSizes(x.Pieces...)
}
