package letter

import (
	"cmp"
	"slices"

	"mahlstick/api"
	"mahlstick/limits"
)

// isSheet reports whether a sheet is as defined.
func isSheet(s api.LetterSheet) bool {
	return areWidths(s.Widths) && arePairs(s.Pairs, len(s.Widths)) &&
		limits.IsSpan(0, s.Other, api.LetterSpace) && limits.IsSpan(0, s.Gap, api.LetterGap) &&
		limits.IsFrom(1, s.Hyphen, api.LetterWidth) && areWords(s.Words, len(s.Widths)) &&
		limits.IsFrom(1, s.Wide, api.LetterFront) && limits.IsFrom(1, s.Rows, api.LetterRows)
}

// isStretch reports whether a number is a stretch.
func isStretch(n int) bool { return limits.IsFrom(0, n, api.LetterStretch) }

func areWidths(widths []int) bool {
	return limits.IsFrom(1, len(widths), api.LetterSigns) && limits.AreFrom(1, widths, api.LetterWidth)
}

func arePairs(pairs []api.LetterPair, signs int) bool {
	if len(pairs) > api.LetterPairs {
		return false
	}
	for i, p := range pairs {
		if !limits.IsFrom(0, p.Left, signs-1) || !limits.IsFrom(0, p.Right, signs-1) || !limits.IsSpan(0, p.Space, api.LetterSpace) {
			return false
		}
		if i > 0 && comparePairs(pairs[i-1], p) >= 0 {
			return false
		}
	}
	return true
}

// comparePairs orders pairs by Left, then by Right.
func comparePairs(a, b api.LetterPair) int {
	return cmp.Or(cmp.Compare(a.Left, b.Left), cmp.Compare(a.Right, b.Right))
}

func areWords(words []api.LetterWord, signs int) bool {
	if !limits.IsFrom(1, len(words), api.LetterWords) {
		return false
	}
	for _, word := range words {
		letters := len(word.Signs)
		if !limits.IsFrom(1, letters, api.LetterLong) || !limits.AreFrom(0, word.Signs, signs-1) || !limits.AreIncreasing(1, word.Cuts, letters-1) {
			return false
		}
	}
	return true
}

// isSetting reports whether a setting of a sheet is as defined.
func isSetting(s api.LetterSheet, x api.LetterSetting) bool {
	return isOut(s, x.Out) && areEnds(x.Ends, possibleEnds(s, x.Out))
}

// isOut reports whether the words of a list can be left out.
func isOut(s api.LetterSheet, out []int) bool {
	if len(out) >= len(s.Words) || !limits.AreIncreasing(0, out, len(s.Words)-1) {
		return false
	}
	for _, word := range out {
		if !s.Words[word].Free {
			return false
		}
	}
	return true
}

// areEnds reports whether ends are some of those that are possible, in their order, with the last one of these.
func areEnds(ends, possible []api.LetterEnd) bool {
	for _, end := range ends {
		i := slices.Index(possible, end)
		if i < 0 {
			return false
		}
		possible = possible[i+1:]
	}
	return len(possible) == 0
}
