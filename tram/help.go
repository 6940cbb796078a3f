package tram

import (
	"iter"
	"slices"

	"mahlstick/api"
	"mahlstick/letter"
	"mahlstick/picks"
)

// isAllRead reports whether the name of a sheet fits, and all of its words are surely read.
func isAllRead(s api.TramSheet) bool {
	x, e := readingOf(s)
	return e == api.OK && x.isAllRead()
}

// A hanging is where the board is, and how many words are surely read there.
type hanging struct{ at, words int }

// hangings goes through all that the board can have, in order.
func (x reading) hangings() iter.Seq[hanging] {
	return func(yield func(hanging) bool) {
		for before := range len(x.Cells) {
			x.At = before + 1
			if !yield(hanging{x.At, x.surely()}) {
				return
			}
		}
	}
}

// oneRow returns the setting of a name without some words that has one row; without all words there is none.
func oneRow(name api.LetterSheet, out []int) api.LetterSetting {
	row := api.LetterSetting{Out: out}
	for number, word := range name.Words {
		if !slices.Contains(out, number) {
			row.Ends = []api.LetterEnd{{Word: number, Letters: len(word.Signs)}}
		}
	}
	return row
}

// mayLeave reports whether layer 1 lets some words of a name be left out.
func mayLeave(name api.LetterSheet, out []int) bool {
	// whether a setting fits is asked only to learn whether it is one
	_, e := letter.Fits(name, oneRow(name, out), 0)
	return e == api.OK
}

// without returns a sheet without some words.
func without(s api.TramSheet, out []int) api.TramSheet {
	s.Name.Words = picks.Without(s.Name.Words, out)
	return s
}

// enough goes through all lists of words without which all others are surely read, in lexicographic order.
func enough(s api.TramSheet) iter.Seq[[]int] {
	return picks.Where(picks.OfFirst(len(s.Name.Words)), func(out []int) bool {
		return mayLeave(s.Name, out) && isAllRead(without(s, out))
	})
}
