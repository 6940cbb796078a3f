package letter_test

import (
	"cmp"
	"slices"

	"mahlstick/api"
)

// This file has the chapter's definitions once more, as slow and as plain as can be, and sheets on which both are compared.

// shape is a row as a setting makes it.
type shape struct {
	letters []glyph
	hyphen  bool
}

type glyph struct{ word, sign int }

// shapes cuts the letters of a setting into rows.
func shapes(s api.LetterSheet, x api.LetterSetting) []shape {
	var all []shape
	var row shape
	for w, word := range s.Words {
		if slices.Contains(x.Out, w) {
			continue
		}
		for i, sign := range word.Signs {
			row.letters = append(row.letters, glyph{w, sign})
			if slices.Contains(x.Ends, api.LetterEnd{Word: w, Letters: i + 1}) {
				row.hyphen = i+1 < len(word.Signs)
				all = append(all, row)
				row = shape{}
			}
		}
	}
	return all
}

// bounds returns the span of the space between two letters.
func bounds(s api.LetterSheet, a, b glyph) api.Span {
	if a.word != b.word {
		return s.Gap
	}
	for _, p := range s.Pairs {
		if p.Left == a.sign && p.Right == b.sign {
			return p.Space
		}
	}
	return s.Other
}

func stretched(x api.Span, stretch int) int {
	return x.Low + (x.High-x.Low)*stretch/api.LetterStretch
}

// modelPlaces returns where letters begin in a row, and how wide it is.
func modelPlaces(s api.LetterSheet, row shape, stretch int) ([]int, int) {
	var places []int
	at := 0
	for i, g := range row.letters {
		if i > 0 {
			at += stretched(bounds(s, row.letters[i-1], g), stretch)
		}
		places = append(places, at)
		at += s.Widths[g.sign]
	}
	if row.hyphen {
		at += stretched(s.Other, stretch) + s.Hyphen
	}
	return places, at
}

func modelWidths(s api.LetterSheet, x api.LetterSetting, stretch int) []int {
	var widths []int
	for _, row := range shapes(s, x) {
		_, wide := modelPlaces(s, row, stretch)
		widths = append(widths, wide)
	}
	return widths
}

func modelFits(s api.LetterSheet, x api.LetterSetting, stretch int) bool {
	return len(x.Ends) <= s.Rows && slices.Max(modelWidths(s, x, stretch)) <= s.Wide
}

// modelStretch returns the greatest stretch with which a setting fits, or -1.
func modelStretch(s api.LetterSheet, x api.LetterSetting) int {
	for stretch := api.LetterStretch; stretch >= 0; stretch-- {
		if modelFits(s, x, stretch) {
			return stretch
		}
	}
	return -1
}

func compareEnds(a, b api.LetterEnd) int {
	return cmp.Or(cmp.Compare(a.Word, b.Word), cmp.Compare(a.Letters, b.Letters))
}

// modelSettings returns all settings without some words that have at most three rows, in order.
func modelSettings(s api.LetterSheet, out []int) []api.LetterSetting {
	var ends []api.LetterEnd
	for w, word := range s.Words {
		for n := 1; n <= len(word.Signs); n++ {
			if !slices.Contains(out, w) && (n == len(word.Signs) || slices.Contains(word.Cuts, n)) {
				ends = append(ends, api.LetterEnd{Word: w, Letters: n})
			}
		}
	}
	last := len(ends) - 1
	lists := [][]api.LetterEnd{{ends[last]}}
	for i := range last {
		lists = append(lists, []api.LetterEnd{ends[i], ends[last]})
		for j := range i {
			lists = append(lists, []api.LetterEnd{ends[j], ends[i], ends[last]})
		}
	}
	slices.SortFunc(lists, func(a, b []api.LetterEnd) int { return slices.CompareFunc(a, b, compareEnds) })
	var all []api.LetterSetting
	for _, list := range lists {
		all = append(all, api.LetterSetting{Out: out, Ends: list})
	}
	return all
}

// modelSet returns the best setting of the whole name and its stretch, or -1.
func modelSet(s api.LetterSheet) (api.LetterSetting, int) {
	var best api.LetterSetting
	stretch := -1
	for rows := 1; rows <= s.Rows && stretch < 0; rows++ {
		for _, x := range modelSettings(s, nil) {
			if n := modelStretch(s, x); len(x.Ends) == rows && n > stretch {
				best, stretch = x, n
			}
		}
	}
	return best, stretch
}

// modelCount returns how many settings without some words fit.
func modelCount(s api.LetterSheet, out []int) int {
	count := 0
	for _, x := range modelSettings(s, out) {
		if modelFits(s, x, 0) {
			count++
		}
	}
	return count
}

// modelNarrow returns the width of the widest row of the setting in which this is the least.
func modelNarrow(s api.LetterSheet) int {
	var fronts []int
	for _, x := range modelSettings(s, nil) {
		if len(x.Ends) <= s.Rows {
			fronts = append(fronts, slices.Max(modelWidths(s, x, 0)))
		}
	}
	return slices.Min(fronts)
}

// modelDrop returns the list that Drop does, and whether there is one.
func modelDrop(s api.LetterSheet) ([]int, bool) {
	var lists [][]int
	for mask := range 1<<len(s.Words) - 1 {
		list := []int{}
		free := true
		for w := range s.Words {
			if mask>>w&1 == 1 {
				list = append(list, w)
				free = free && s.Words[w].Free
			}
		}
		if free && modelCount(s, list) > 0 {
			lists = append(lists, list)
		}
	}
	slices.SortFunc(lists, func(a, b []int) int {
		return cmp.Or(cmp.Compare(len(a), len(b)), slices.Compare(a, b))
	})
	if len(lists) == 0 {
		return nil, false
	}
	return lists[0], true
}

// clipped returns a sheet without the last letter of its name.
func clipped(s api.LetterSheet) api.LetterSheet {
	s = clone(s)
	last := &s.Words[len(s.Words)-1]
	last.Signs = last.Signs[:len(last.Signs)-1]
	last.Cuts = slices.DeleteFunc(last.Cuts, func(cut int) bool { return cut >= len(last.Signs) })
	if len(last.Signs) == 0 {
		s.Words = s.Words[:len(s.Words)-1]
	}
	return s
}

func modelOver(s api.LetterSheet) int {
	over := 0
	for len(s.Words) > 0 && modelCount(s, nil) == 0 {
		s = clipped(s)
		over++
	}
	return over
}

// modelAlike reports whether some letters can fall off two words so that they look the same.
func modelAlike(a, b []int) bool {
	for i := -1; i < len(a); i++ {
		for j := -1; j < len(b); j++ {
			x, y := fallen(a, i), fallen(b, j)
			if len(x) > 0 && slices.Equal(x, y) {
				return true
			}
		}
	}
	return false
}

// fallen returns a word without the letter i, or all of it if there is no such letter.
func fallen(word []int, i int) []int {
	if i < 0 {
		return word
	}
	return slices.Concat(word[:i], word[i+1:])
}

// modelFirstAlike returns the first two words that can be mistaken for each other.
func modelFirstAlike(s api.LetterSheet) (int, int, bool) {
	for i := range s.Words {
		for j := range s.Words {
			if i < j && modelAlike(s.Words[i].Signs, s.Words[j].Signs) {
				return i, j, true
			}
		}
	}
	return 0, 0, false
}

// dice is a row of numbers that look random and are the same each time.
type dice uint64

// upTo returns a number from 0 to one that is given.
func (d *dice) upTo(most int) int {
	*d = *d*6364136223846793005 + 1442695040888963407
	return int(uint64(*d) >> 33 % uint64(most+1))
}

func (d *dice) span(most int) api.Span {
	low := d.upTo(most)
	return api.Span{Low: low, High: low + d.upTo(most-low)}
}

func (d *dice) word(signs int) api.LetterWord {
	word := api.LetterWord{Free: d.upTo(1) == 1}
	for range 1 + d.upTo(api.LetterLong-1) {
		word.Signs = append(word.Signs, d.upTo(signs-1))
	}
	for cut := 1; cut < len(word.Signs); cut++ {
		if d.upTo(2) == 0 {
			word.Cuts = append(word.Cuts, cut)
		}
	}
	return word
}

// sheet returns a sheet as defined, the front of which is often just too narrow, or just wide enough.
func (d *dice) sheet() api.LetterSheet {
	s := api.LetterSheet{Other: d.span(api.LetterSpace), Gap: d.span(api.LetterGap), Hyphen: 1 + d.upTo(api.LetterWidth-1), Rows: 1 + d.upTo(api.LetterRows-1), Wide: 1}
	signs := 1 + d.upTo(api.LetterSigns-1)
	for range signs {
		s.Widths = append(s.Widths, 1+d.upTo(api.LetterWidth-1))
	}
	for left := range signs {
		for right := range signs {
			if len(s.Pairs) < api.LetterPairs && d.upTo(2) == 0 {
				s.Pairs = append(s.Pairs, api.LetterPair{Left: left, Right: right, Space: d.span(api.LetterSpace)})
			}
		}
	}
	for range 1 + d.upTo(api.LetterWords-1) {
		s.Words = append(s.Words, d.word(signs))
	}
	s.Wide = min(api.LetterFront, max(1, modelNarrow(s)+d.upTo(40)-15))
	return s
}

// setting returns a setting of a sheet, and maybe one with more rows than it has room for.
func (d *dice) setting(s api.LetterSheet) api.LetterSetting {
	var x api.LetterSetting
	for w, word := range s.Words {
		if word.Free && len(x.Out) < len(s.Words)-1 && d.upTo(3) == 0 {
			x.Out = append(x.Out, w)
		}
	}
	for w, word := range s.Words {
		if slices.Contains(x.Out, w) {
			continue
		}
		for _, cut := range append(slices.Clone(word.Cuts), len(word.Signs)) {
			if d.upTo(2) == 0 {
				x.Ends = append(x.Ends, api.LetterEnd{Word: w, Letters: cut})
			}
		}
	}
	all := modelSettings(s, x.Out)
	last := all[0].Ends[len(all[0].Ends)-1]
	if len(x.Ends) == 0 || x.Ends[len(x.Ends)-1] != last {
		x.Ends = append(x.Ends, last)
	}
	return x
}

// sheets returns some sheets.
func sheets(n int) []api.LetterSheet {
	d := dice(1)
	all := make([]api.LetterSheet, n)
	for i := range all {
		all[i] = d.sheet()
	}
	return all
}

// clone returns a sheet that shares no memory with another one.
func clone(s api.LetterSheet) api.LetterSheet {
	s.Widths = slices.Clone(s.Widths)
	s.Pairs = slices.Clone(s.Pairs)
	s.Words = slices.Clone(s.Words)
	for i, word := range s.Words {
		s.Words[i].Signs = slices.Clone(word.Signs)
		s.Words[i].Cuts = slices.Clone(word.Cuts)
	}
	return s
}

func sameSheet(a, b api.LetterSheet) bool {
	return slices.Equal(a.Widths, b.Widths) && slices.Equal(a.Pairs, b.Pairs) &&
		a.Other == b.Other && a.Gap == b.Gap && a.Hyphen == b.Hyphen &&
		slices.EqualFunc(a.Words, b.Words, sameWord) && a.Wide == b.Wide && a.Rows == b.Rows
}

func sameWord(a, b api.LetterWord) bool {
	return slices.Equal(a.Signs, b.Signs) && slices.Equal(a.Cuts, b.Cuts) && a.Free == b.Free
}

func sameSetting(a, b api.LetterSetting) bool {
	return slices.Equal(a.Out, b.Out) && slices.Equal(a.Ends, b.Ends)
}

func samePlaces(a, b [][]int) bool {
	return slices.EqualFunc(a, b, func(x, y []int) bool { return slices.Equal(x, y) })
}
