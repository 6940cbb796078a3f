// Package limits reports whether numbers are within limits; the layers call it.
package limits

import (
	"slices"

	"mahlstick/api"
)

// IsFrom reports whether a number lies between two others, or is one of them.
func IsFrom(least, n, most int) bool { return least <= n && n <= most }

// AreFrom reports whether each of some numbers lies between two others, or is one of them.
func AreFrom(least int, numbers []int, most int) bool {
	for _, n := range numbers {
		if !IsFrom(least, n, most) {
			return false
		}
	}
	return true
}

// AreIncreasing reports whether some numbers lie between two others, or are these, and each one is greater than the one before it.
func AreIncreasing(least int, numbers []int, most int) bool {
	for i := 1; i < len(numbers); i++ {
		if numbers[i] <= numbers[i-1] {
			return false
		}
	}
	return AreFrom(least, numbers, most)
}

// AreDifferent reports whether some numbers lie between two others, or are these, and none is there twice.
func AreDifferent(least int, numbers []int, most int) bool {
	// numbers that are all between these cannot be many before one is there twice
	if !AreFrom(least, numbers, most) {
		return false
	}
	for i, n := range numbers {
		if slices.Contains(numbers[:i], n) {
			return false
		}
	}
	return true
}

// IsSpan reports whether a span lies between two numbers, with ends in order.
func IsSpan(least int, x api.Span, most int) bool {
	return least <= x.Low && x.Low <= x.High && x.High <= most
}

// AreSpans reports whether each of some spans lies between two numbers, with ends in order.
func AreSpans(least int, spans []api.Span, most int) bool {
	for _, x := range spans {
		if !IsSpan(least, x, most) {
			return false
		}
	}
	return true
}
