package tint

import (
	"cmp"
	"iter"
	"slices"

	"mahlstick/api"
	"mahlstick/picks"
	"mahlstick/sum"
)

// mixtures goes through all mixtures of the tins of a sheet, in order.
func mixtures(s api.TintSheet) iter.Seq[mixed] {
	return func(yield func(mixed) bool) {
		for fewer := range api.TintParts {
			for mix := range mixes(len(s.Tins), fewer+1) {
				if !yield(mixed{s, mix}) {
					return
				}
			}
		}
	}
}

// mixes goes through all mixtures of so many tins that have so many parts together, in order.
func mixes(tins, parts int) iter.Seq[[]int] {
	return picks.Lists(tins, parts+1, func(before []int, next int) bool {
		rest := parts - sum.Of(before...) - next
		return rest == 0 || rest > 0 && len(before) < tins-1
	})
}

// sure goes through all mixtures that surely match, in order.
func sure(s api.TintSheet) iter.Seq[mixed] {
	return picks.Where(mixtures(s), mixed.surelyMatches)
}

// possible goes through all mixtures that surely match or may match, in order.
func possible(s api.TintSheet) iter.Seq[mixed] {
	return picks.Where(mixtures(s), mixed.canMatch)
}

// hasFewerTins reports whether a mixture has parts of fewer tins than another one, or of as many whose numbers come first.
func hasFewerTins(a, b mixed) bool {
	return cmp.Or(cmp.Compare(len(a.tins()), len(b.tins())), slices.Compare(a.tins(), b.tins())) < 0
}
