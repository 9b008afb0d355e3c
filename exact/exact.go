// Package exact computes with the integers, spans, heights and ratios of DOC.md's sections Terms and Rules, which all layers share.
package exact

import (
	"slices"

	"acme/api"
)

// AllFrom reports whether all values are from low to high.
func AllFrom(low, high int, values ...int) bool {
	outside := func(value int) bool { return value < low || value > high }
	return !slices.ContainsFunc(values, outside)
}

// ValidSpan reports whether a span is valid from low to high.
func ValidSpan(s api.Span, low, high int) bool {
	return low <= s.Low && s.Low <= s.High && s.High <= high
}

// ValidSpans reports whether all spans are valid from low to high.
func ValidSpans(low, high int, spans ...api.Span) bool {
	wrong := func(s api.Span) bool { return !ValidSpan(s, low, high) }
	return !slices.ContainsFunc(spans, wrong)
}

// Common returns the integers that all spans share; there are none if its Low is above its High.
func Common(s api.Span, others ...api.Span) api.Span {
	for _, o := range others {
		s.Low, s.High = max(s.Low, o.Low), min(s.High, o.High)
	}
	return s
}

// Ratio returns num / den in lowest terms; den is above 0.
func Ratio(num, den int) api.Ratio {
	divisor := commonDivisor(max(num, -num), den)
	return api.Ratio{Num: num / divisor, Den: den / divisor}
}

// RoundUp returns num / den, rounded up; den is above 0.
func RoundUp(num, den int) int {
	quotient := num / den
	// Go rounds toward 0, which is up already where the quotient is below 0.
	if num%den > 0 {
		quotient++
	}
	return quotient
}

// RoundDown returns num / den, rounded down; den is above 0.
func RoundDown(num, den int) int { return -RoundUp(-num, den) }

func commonDivisor(a, b int) int {
	for b != 0 {
		a, b = b, a%b
	}
	return a
}
