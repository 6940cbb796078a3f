package letter

import (
	"cmp"
	"slices"

	"mahlstick/api"
)

// isSheet reports whether a sheet is as defined.
func isSheet(s api.LetterSheet) bool {
	return areWidths(s.Widths) && arePairs(s.Pairs, len(s.Widths)) &&
		isSpan(s.Other, api.LetterSpace) && isSpan(s.Gap, api.LetterGap) &&
		isFrom1(s.Hyphen, api.LetterWidth) && areWords(s.Words, len(s.Widths)) &&
		isFrom1(s.Wide, api.LetterFront) && isFrom1(s.Rows, api.LetterRows)
}

// isFrom1 reports whether a number is from 1 to another one.
func isFrom1(n, most int) bool { return 1 <= n && n <= most }

// isBelow reports whether a number is that of one of so many things.
func isBelow(n, things int) bool { return 0 <= n && n < things }

// isSpan reports whether a span is from 0 to a number, with ends in order.
func isSpan(x api.Span, most int) bool {
	return 0 <= x.Low && x.Low <= x.High && x.High <= most
}

// isStretch reports whether a number is a stretch.
func isStretch(n int) bool { return 0 <= n && n <= api.LetterStretch }

func areWidths(widths []int) bool {
	if !isFrom1(len(widths), api.LetterSigns) {
		return false
	}
	for _, width := range widths {
		if !isFrom1(width, api.LetterWidth) {
			return false
		}
	}
	return true
}

func arePairs(pairs []api.LetterPair, signs int) bool {
	if len(pairs) > api.LetterPairs {
		return false
	}
	for i, p := range pairs {
		if !isBelow(p.Left, signs) || !isBelow(p.Right, signs) || !isSpan(p.Space, api.LetterSpace) {
			return false
		}
		if i > 0 && comparePairs(pairs[i-1], p) >= 0 {
			return false
		}
	}
	return true
}

// comparePairs orders pairs by Left, then by Right.
func comparePairs(a, b api.LetterPair) int {
	return cmp.Or(cmp.Compare(a.Left, b.Left), cmp.Compare(a.Right, b.Right))
}

func areWords(words []api.LetterWord, signs int) bool {
	if !isFrom1(len(words), api.LetterWords) {
		return false
	}
	for _, word := range words {
		if !isFrom1(len(word.Signs), api.LetterLong) || !areCuts(word.Cuts, len(word.Signs)) {
			return false
		}
		for _, sign := range word.Signs {
			if !isBelow(sign, signs) {
				return false
			}
		}
	}
	return true
}

// areCuts reports whether a list is that of the cuts of a word with so many letters.
func areCuts(cuts []int, letters int) bool {
	last := 0
	for _, cut := range cuts {
		if cut <= last || cut >= letters {
			return false
		}
		last = cut
	}
	return true
}

// isSetting reports whether a setting of a sheet is as defined.
func isSetting(s api.LetterSheet, x api.LetterSetting) bool {
	return isOut(s, x.Out) && areEnds(x.Ends, possibleEnds(s, x.Out))
}

// isOut reports whether the words of a list can be left out.
func isOut(s api.LetterSheet, out []int) bool {
	if len(out) >= len(s.Words) {
		return false
	}
	last := -1
	for _, word := range out {
		if word <= last || word >= len(s.Words) || !s.Words[word].Free {
			return false
		}
		last = word
	}
	return true
}

// areEnds reports whether ends are some of those that are possible, in their order, with the last one of these.
func areEnds(ends, possible []api.LetterEnd) bool {
	for _, end := range ends {
		i := slices.Index(possible, end)
		if i < 0 {
			return false
		}
		possible = possible[i+1:]
	}
	return len(possible) == 0
}
