package tram_test

import (
	"slices"

	"mahlstick/api"
	"mahlstick/letter"
)

// This file has the chapter's definitions once more, as slow and as plain as can be, and sheets on which both are compared.

// modelNeeds returns what words need, or nil if the name does not fit: it goes through the letters of the name, one by one.
func modelNeeds(s api.TramSheet) []int {
	setting, _, e := letter.Set(s.Name)
	if e != api.OK {
		return nil
	}
	var needs []int
	for w, word := range s.Name.Words {
		need := 0
		for i := range word.Signs {
			need += s.Pace
			if i+1 < len(word.Signs) && slices.Contains(setting.Ends, api.LetterEnd{Word: w, Letters: i + 1}) {
				need += s.Turn
			}
		}
		needs = append(needs, need)
	}
	return needs
}

// isSeen reports whether the board is seen from a cell, which need not be one of the sheet.
func isSeen(s api.TramSheet, cell int) bool {
	return cell >= 0 && cell < len(s.Cells) && cell >= s.At-s.Reach && cell <= s.At-1 && !s.Cells[cell].Hidden
}

// modelViews returns all views, of all spans of cells that there are.
func modelViews(s api.TramSheet) []api.Span {
	var views []api.Span
	for low := range s.Cells {
	spans:
		for high := low; high < len(s.Cells); high++ {
			for cell := low; cell <= high; cell++ {
				if !isSeen(s, cell) {
					continue spans
				}
			}
			if !isSeen(s, low-1) && !isSeen(s, high+1) {
				views = append(views, span(low, high))
			}
		}
	}
	return views
}

// modelSees returns how many words are read in a ride: of each word it asks whether all that are read in a view, with this one, need too much.
func modelSees(s api.TramSheet, needs, ride []int) int {
	words := 0
	for _, view := range modelViews(s) {
		first, ticks := words, 0
		for cell := view.Low; cell <= view.High; cell++ {
			ticks += ride[cell]
		}
		for words < len(needs) && total(needs[first:words+1]) <= ticks {
			words++
		}
	}
	return words
}

// total returns the sum of some numbers.
func total(numbers []int) int {
	all := 0
	for _, n := range numbers {
		all += n
	}
	return all
}

// modelRides returns all rides of a sheet, in lexicographic order.
func modelRides(s api.TramSheet) [][]int {
	all := [][]int{nil}
	for _, cell := range s.Cells {
		var longer [][]int
		for _, ride := range all {
			for ticks := cell.Ticks.Low; ticks <= cell.Ticks.High; ticks++ {
				longer = append(longer, append(slices.Clone(ride), ticks))
			}
		}
		all = longer
	}
	return all
}

// modelWords returns how many words are read in all rides, and how many in some.
func modelWords(s api.TramSheet, needs []int) (surely, most int) {
	surely = len(needs)
	for _, ride := range modelRides(s) {
		words := modelSees(s, needs, ride)
		surely, most = min(surely, words), max(most, words)
	}
	return surely, most
}

// modelAllRead reports whether the name of a sheet fits, and all words are surely read.
func modelAllRead(s api.TramSheet) bool {
	needs := modelNeeds(s)
	if needs == nil {
		return false
	}
	surely, _ := modelWords(s, needs)
	return surely == len(needs)
}

// waits returns a sheet with more ticks in a cell.
func waits(s api.TramSheet, cell, ticks int) api.TramSheet {
	return with(s, func(s *api.TramSheet) {
		s.Cells[cell].Ticks = span(s.Cells[cell].Ticks.Low+ticks, s.Cells[cell].Ticks.High+ticks)
	})
}

// modelStop returns where the tram should wait, and how many ticks; or false.
func modelStop(s api.TramSheet, needs []int) (cell, ticks int, found bool) {
	if len(modelViews(s)) == 0 {
		return 0, 0, false
	}
	for ticks := 0; ; ticks++ {
		for cell := range s.Cells {
			if surely, _ := modelWords(waits(s, cell, ticks), needs); surely == len(needs) {
				return cell, ticks, true
			}
		}
	}
}

// modelHang returns where most words are surely read, and how many.
func modelHang(s api.TramSheet, needs []int) (at, words int) {
	for place := 1; place <= len(s.Cells); place++ {
		surely, _ := modelWords(with(s, func(s *api.TramSheet) { s.At = place }), needs)
		if at == 0 || surely > words {
			at, words = place, surely
		}
	}
	return at, words
}

// modelOuts returns all lists of words that can be left out, the shorter ones first, and those that are as long in lexicographic order.
func modelOuts(s api.TramSheet) [][]int {
	var all [][]int
	for picked := range 1 << len(s.Name.Words) {
		var out []int
		for word := range s.Name.Words {
			if picked>>word&1 == 1 {
				out = append(out, word)
			}
		}
		if !slices.ContainsFunc(out, func(word int) bool { return !s.Name.Words[word].Free }) && len(out) < len(s.Name.Words) {
			all = append(all, out)
		}
	}
	slices.SortFunc(all, func(a, b []int) int {
		if len(a) != len(b) {
			return len(a) - len(b)
		}
		return slices.Compare(a, b)
	})
	return all
}

// leaving returns a sheet without some words.
func leaving(s api.TramSheet, out []int) api.TramSheet {
	return with(s, func(s *api.TramSheet) {
		for _, word := range slices.Backward(out) {
			s.Name.Words = slices.Delete(s.Name.Words, word, word+1)
		}
	})
}

// modelLeave returns the words that are left out, or false.
func modelLeave(s api.TramSheet) ([]int, bool) {
	for _, out := range modelOuts(s) {
		if modelAllRead(leaving(s, out)) {
			return out, true
		}
	}
	return nil, false
}

// dice is a row of numbers that look random and are the same each time.
type dice uint64

// upTo returns a number from 0 to one that is given.
func (d *dice) upTo(most int) int {
	*d = *d*6364136223846793005 + 1442695040888963407
	return int(uint64(*d) >> 33 % uint64(most+1))
}

// span returns a span within bounds, with at most so many numbers more than one.
func (d *dice) span(low, high, wide int) api.Span {
	from := low + d.upTo(high-low)
	return span(from, min(high, from+d.upTo(wide)))
}

// name returns a name of at most so many words, with letters that are as wide as each other or not; it fits in one row of its front, or in several, or not.
func (d *dice) name(words int) api.LetterSheet {
	name := api.LetterSheet{Other: d.span(0, 9, 3), Gap: d.span(0, 20, 9), Hyphen: 1 + d.upTo(19), Rows: 1 + d.upTo(2)}
	for range 1 + d.upTo(2) {
		name.Widths = append(name.Widths, 1+d.upTo(19))
	}
	if d.upTo(1) == 0 {
		name.Pairs = []api.LetterPair{{Left: 0, Right: len(name.Widths) - 1, Space: d.span(0, 9, 9)}}
	}
	for range 1 + d.upTo(words-1) {
		word := api.LetterWord{Free: d.upTo(2) > 0}
		for range 1 + d.upTo(5) {
			word.Signs = append(word.Signs, d.upTo(len(name.Widths)-1))
		}
		for cut := 1; cut < len(word.Signs); cut++ {
			if d.upTo(2) > 0 {
				word.Cuts = append(word.Cuts, cut)
			}
		}
		name.Words = append(name.Words, word)
	}
	name.Wide = 1
	name.Wide, _ = letter.Narrow(name)
	name.Wide = max(1, min(400, name.Wide+d.upTo(60)-8))
	return name
}

// sheet returns a sheet of so many cells and words at most, whose ticks are within a limit, and have so many numbers more than one.
func (d *dice) sheet(most, words, ticks, wide int) api.TramSheet {
	s := api.TramSheet{Pace: 1 + d.upTo(d.upTo(8)), Turn: d.upTo(9), Reach: 1 + d.upTo(11), Name: d.name(words)}
	for range 1 + d.upTo(most-1) {
		s.Cells = append(s.Cells, api.TramCell{Ticks: d.span(1, ticks, wide), Hidden: d.upTo(3) == 0})
	}
	s.At = len(s.Cells) - d.upTo(d.upTo(len(s.Cells)-1))
	return s
}

// small returns a sheet with not too many rides.
func (d *dice) small() api.TramSheet { return d.sheet(5, 3, 20, 2) }

// tight returns a sheet of which often just as much is read as one tick more, or less, lets be read.
func (d *dice) tight() api.TramSheet {
	s := d.sheet(5, 4, 9, 4)
	s.Pace, s.Turn, s.Reach = 1, d.upTo(2), 5-d.upTo(d.upTo(3))
	return s
}

// any returns a sheet of any size.
func (d *dice) any() api.TramSheet { return d.sheet(12, 4, 20, 19) }

// ride returns a ride of a sheet.
func (d *dice) ride(s api.TramSheet) []int {
	var ride []int
	for _, cell := range s.Cells {
		ride = append(ride, cell.Ticks.Low+d.upTo(cell.Ticks.High-cell.Ticks.Low))
	}
	return ride
}

// clone returns a sheet that shares no memory with another one.
func clone(s api.TramSheet) api.TramSheet {
	s.Cells = slices.Clone(s.Cells)
	s.Name.Widths = slices.Clone(s.Name.Widths)
	s.Name.Pairs = slices.Clone(s.Name.Pairs)
	s.Name.Words = slices.Clone(s.Name.Words)
	for i, word := range s.Name.Words {
		s.Name.Words[i].Signs, s.Name.Words[i].Cuts = slices.Clone(word.Signs), slices.Clone(word.Cuts)
	}
	return s
}

// with returns a sheet with a change.
func with(s api.TramSheet, change func(*api.TramSheet)) api.TramSheet {
	s = clone(s)
	change(&s)
	return s
}

func sameSheet(a, b api.TramSheet) bool {
	return slices.Equal(a.Cells, b.Cells) && a.At == b.At && a.Reach == b.Reach && a.Pace == b.Pace && a.Turn == b.Turn && sameName(a.Name, b.Name)
}

func sameName(a, b api.LetterSheet) bool {
	return slices.Equal(a.Widths, b.Widths) && slices.Equal(a.Pairs, b.Pairs) && a.Other == b.Other && a.Gap == b.Gap &&
		a.Hyphen == b.Hyphen && slices.EqualFunc(a.Words, b.Words, sameWord) && a.Wide == b.Wide && a.Rows == b.Rows
}

func sameWord(a, b api.LetterWord) bool {
	return slices.Equal(a.Signs, b.Signs) && slices.Equal(a.Cuts, b.Cuts) && a.Free == b.Free
}
