package swap

import (
	"slices"

	"acme/api"
	"acme/exact"
	"acme/thread"
)

// standard is a standard whose screws and nuts are tried.
type standard struct{ api.SwapStandard }

func validStandards(standards ...api.SwapStandard) bool {
	wrong := func(s api.SwapStandard) bool {
		return !validCountry(s.Country) || !validYears(s.Years) || thread.Check(s.Form) != api.OK || !validSizes(s.Screw, s.Nut)
	}
	return !slices.ContainsFunc(standards, wrong)
}

func validCountry(country int) bool { return exact.AllFrom(0, api.MaxSwapCountry, country) }

func validYears(years api.Span) bool { return exact.ValidSpan(years, 0, api.MaxSwapYear) }

func validSizes(sizes ...api.Span) bool {
	return exact.ValidSpans(-api.MaxSwapSize, api.MaxSwapSize, sizes...)
}

// least returns for how many turns all screws of a standard go into all nuts of another one: the greatest screw goes into the smallest nut for the fewest.
func (s standard) least(nuts standard, over exact.Heights) int {
	return piece{s.Form, s.Screw.High}.turnsIn(piece{nuts.Form, nuts.Nut.Low}, over)
}

// most returns for how many turns some screw of a standard goes into some nut of another one.
func (s standard) most(nuts standard, over exact.Heights) int {
	return piece{s.Form, s.Screw.Low}.turnsIn(piece{nuts.Form, nuts.Nut.High}, over)
}

// integers are those of a span.
type integers struct{ api.Span }

// has reports whether a number is one of the integers.
func (i integers) has(number int) bool { return exact.AllFrom(i.Low, i.High, number) }

// meets reports whether each of some spans has at least one of the integers.
func (i integers) meets(spans ...api.Span) bool {
	apart := func(s api.Span) bool { return s.High < i.Low || i.High < s.Low }
	return !slices.ContainsFunc(spans, apart)
}

// valid reports whether a standard of a country was valid in a year.
func (s standard) valid(country, year int) bool {
	return s.Country == country && integers{s.Years}.has(year)
}

// made reports whether a lot can have been made by a standard.
func (s standard) made(x api.SwapLot) bool {
	return (x.Country == api.SwapAny || x.Country == s.Country) &&
		integers{s.Years}.meets(x.Years) && integers{x.Pitch}.has(s.Form.Pitch) && integers{s.Screw}.meets(x.Pieces...)
}
