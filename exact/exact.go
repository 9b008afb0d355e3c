// Package exact computes with the integers, spans and ratios of DOC.md's sections Terms and Rules, which all layers share.
package exact

import (
	"slices"

	"acme/api"
)

// AllFrom reports whether all values are from low to high.
func AllFrom(low, high int, values ...int) bool {
	outside := func(value int) bool { return value < low || value > high }
	return !slices.ContainsFunc(values, outside)
}

// ValidSpan reports whether a span is valid from low to high.
func ValidSpan(s api.Span, low, high int) bool {
	return low <= s.Low && s.Low <= s.High && s.High <= high
}

// Ratio returns num / den in lowest terms; den is above 0.
func Ratio(num, den int) api.Ratio {
	divisor := commonDivisor(max(num, -num), den)
	return api.Ratio{Num: num / divisor, Den: den / divisor}
}

// RoundUp returns num / den, rounded up; den is above 0.
func RoundUp(num, den int) int {
	quotient := num / den
	// Go rounds toward 0, which is up already where the quotient is below 0.
	if num%den > 0 {
		quotient++
	}
	return quotient
}

// RoundDown returns num / den, rounded down; den is above 0.
func RoundDown(num, den int) int { return -RoundUp(-num, den) }

func commonDivisor(a, b int) int {
	for b != 0 {
		a, b = b, a%b
	}
	return a
}
