package letter

import (
	"cmp"
	"iter"
	"slices"

	"mahlstick/api"
	"mahlstick/picks"
)

// possibleEnds returns all ends that rows can have without some words, in order.
func possibleEnds(s api.LetterSheet, out []int) []api.LetterEnd {
	var ends []api.LetterEnd
	for word := range len(s.Words) {
		if slices.Contains(out, word) {
			continue
		}
		for _, cut := range s.Words[word].Cuts {
			ends = append(ends, api.LetterEnd{Word: word, Letters: cut})
		}
		ends = append(ends, api.LetterEnd{Word: word, Letters: len(s.Words[word].Signs)})
	}
	return ends
}

// settings goes through all settings without some words that have no more rows than there is room for, in order.
func settings(s api.LetterSheet, out []int) iter.Seq[api.LetterSetting] {
	return func(yield func(api.LetterSetting) bool) {
		possible := possibleEnds(s, out)
		last := len(possible) - 1
		var extend func(ends []api.LetterEnd, from int) bool
		extend = func(ends []api.LetterEnd, from int) bool {
			for i := from; i < last && len(ends)+1 < s.Rows; i++ {
				if !extend(append(slices.Clone(ends), possible[i]), i+1) {
					return false
				}
			}
			return yield(api.LetterSetting{Out: slices.Clone(out), Ends: append(slices.Clone(ends), possible[last])})
		}
		extend(nil, 0)
	}
}

// fitting goes through all settings without some words that fit, in order, each one with its greatest stretch.
func fitting(s api.LetterSheet, out []int) iter.Seq[laid] {
	return func(yield func(laid) bool) {
		for x := range settings(s, out) {
			l, fits := lay(s, x, 0).widest()
			if fits && !yield(l) {
				return
			}
		}
	}
}

// anyFits reports whether some setting without some words fits.
func anyFits(s api.LetterSheet, out []int) bool {
	for range fitting(s, out) {
		return true
	}
	return false
}

// fewerAndWider reports whether a setting has fewer rows than another one, or as many and a greater stretch.
func fewerAndWider(a, b laid) bool {
	return cmp.Or(cmp.Compare(len(a.Ends), len(b.Ends)), cmp.Compare(b.stretch, a.stretch)) < 0
}

// freeWords returns all words that are free.
func freeWords(s api.LetterSheet) []int {
	var free []int
	for i, word := range s.Words {
		if word.Free {
			free = append(free, i)
		}
	}
	return free
}

// outs goes through all lists of words that can be left out, in lexicographic order; some word is never left out.
func outs(s api.LetterSheet) iter.Seq[[]int] {
	return picks.Where(picks.Of(freeWords(s)), func(out []int) bool { return len(out) < len(s.Words) })
}

// enough goes through all lists of words without which some setting fits, in lexicographic order.
func enough(s api.LetterSheet) iter.Seq[[]int] {
	return picks.Where(outs(s), func(out []int) bool { return anyFits(s, out) })
}

// letters returns how many letters the name has.
func letters(s api.LetterSheet) int {
	count := 0
	for _, word := range s.Words {
		count += len(word.Signs)
	}
	return count
}

// without returns the sheet with the name without so many last letters.
func without(s api.LetterSheet, over int) api.LetterSheet {
	left := letters(s) - over
	var words []api.LetterWord
	for _, word := range s.Words {
		if left == 0 {
			break
		}
		kept := min(left, len(word.Signs))
		left -= kept
		words = append(words, shortened(word, kept))
	}
	s.Words = words
	return s
}

// shortened returns the first letters of a word, with those of its cuts that are before the last of them.
func shortened(word api.LetterWord, letters int) api.LetterWord {
	short := api.LetterWord{Signs: word.Signs[:letters], Free: word.Free}
	for _, cut := range word.Cuts {
		if cut < letters {
			short.Cuts = append(short.Cuts, cut)
		}
	}
	return short
}

// mistaken reports whether two words can look the same.
func mistaken(one, other []int) bool {
	for _, x := range looks(one) {
		for _, y := range looks(other) {
			if slices.Equal(x, y) {
				return true
			}
		}
	}
	return false
}

// looks returns all that a word can be when at most one letter has fallen off, and one is left.
func looks(signs []int) [][]int {
	all := [][]int{signs}
	if len(signs) == 1 {
		return all
	}
	for i := range signs {
		all = append(all, slices.Delete(slices.Clone(signs), i, i+1))
	}
	return all
}
