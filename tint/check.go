package tint

import (
	"mahlstick/api"
	"mahlstick/limits"
	"mahlstick/sum"
)

// isSheet reports whether a sheet is as defined.
func isSheet(s api.TintSheet) bool {
	return limits.AreFrom(0, s.Old[:], api.TintMost) && limits.AreSpans(0, s.Fade[:], api.TintFade) &&
		limits.IsSpan(0, s.Years, api.TintYears) && limits.IsFrom(1, s.Off, api.TintOff) && areTins(s.Tins)
}

func areTins(tins []api.TintTin) bool {
	if !limits.IsFrom(1, len(tins), api.TintTins) {
		return false
	}
	for _, tin := range tins {
		if !limits.AreSpans(0, tin.Pigments[:], api.TintMost) {
			return false
		}
	}
	return true
}

// isMixtureOf reports whether a list is a mixture of the tins of a sheet.
func isMixtureOf(s api.TintSheet, mix []int) bool {
	// numbers that are all within limits have a sum that is not too large to be one
	return len(mix) == len(s.Tins) && limits.AreFrom(0, mix, api.TintParts) && limits.IsFrom(1, sum.Of(mix...), api.TintParts)
}

// isTruthOf reports whether a truth of a sheet is as defined.
func isTruthOf(s api.TintSheet, t api.TintTruth) bool {
	if len(t.Tins) != len(s.Tins) || !limits.IsFrom(s.Years.Low, t.Years, s.Years.High) || !areWithin(s.Fade, t.Fade) {
		return false
	}
	for tin, amounts := range t.Tins {
		if !areWithin(s.Tins[tin].Pigments, amounts) {
			return false
		}
	}
	return true
}

// areWithin reports whether each of three numbers is within its span.
func areWithin(spans [3]api.Span, numbers [3]int) bool {
	for i, n := range numbers {
		if !limits.IsFrom(spans[i].Low, n, spans[i].High) {
			return false
		}
	}
	return true
}
