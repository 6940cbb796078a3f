package tram

import (
	"slices"

	"mahlstick/api"
	"mahlstick/letter"
	"mahlstick/sum"
)

// The numbers of the ticks that cells can take.
const (
	least = iota
	greatest
)

// A reading is a sheet with the needs of its words.
type reading struct {
	api.TramSheet
	needs []int
}

// unfit is the panic of a name that does not fit.
type unfit struct{}

// mustEnd returns the ends of the rows of a name; it gives up if the name does not fit.
func mustEnd(name api.LetterSheet) []api.LetterEnd {
	setting, _, e := letter.Set(name)
	if e != api.OK {
		panic(unfit{})
	}
	return setting.Ends
}

// readingOf returns a sheet with the needs of its words; ErrArg if the sheet is not as defined, ErrRule if its name does not fit.
func readingOf(s api.TramSheet) (x reading, e api.Errno) {
	defer func() {
		if _, is := recover().(unfit); is {
			x, e = reading{}, api.ErrRule
		}
	}()
	if !isSheet(s) {
		return reading{}, api.ErrArg
	}
	return reading{s, needsOf(s, mustEnd(s.Name))}, api.OK
}

// needsOf returns the needs of the words of a sheet, if the rows of its name have some ends.
func needsOf(s api.TramSheet, ends []api.LetterEnd) []int {
	var needs []int
	for number, word := range s.Name.Words {
		letters := len(word.Signs)
		need := s.Pace * letters
		for _, end := range ends {
			if end.Word == number && end.Letters < letters {
				need += s.Turn
			}
		}
		needs = append(needs, need)
	}
	return needs
}

// least returns how many ticks a cell takes at least.
func (x reading) least(cell int) int { return x.Cells[cell].Ticks.Low }

// greatest returns how many it takes at most.
func (x reading) greatest(cell int) int { return x.Cells[cell].Ticks.High }

// ride returns the one in which each cell takes the least, or the greatest ticks.
func (x reading) ride(ticks int) []int {
	howMany := [...]func(reading, int) int{least: reading.least, greatest: reading.greatest}
	var ride []int
	for cell := range len(x.Cells) {
		ride = append(ride, howMany[ticks](x, cell))
	}
	return ride
}

// sees returns how many words are read in a ride.
func (x reading) sees(ride []int) int {
	words := 0
	for view := range views(x.TramSheet) {
		left := sum.Of(ride[view.Low : view.High+1]...)
		for words < len(x.needs) && x.needs[words] <= left {
			left -= x.needs[words]
			words++
		}
	}
	return words
}

// surely returns how many words are read in all rides: more ticks never make fewer words be read.
func (x reading) surely() int { return x.sees(x.ride(least)) }

// most returns how many words are read in some ride at most.
func (x reading) most() int { return x.sees(x.ride(greatest)) }

// word returns whether a word is read.
func (x reading) word(word int) api.TramWord {
	switch {
	case word < x.surely():
		return api.TramSurely
	case word < x.most():
		return api.TramMay
	default:
		return api.TramNever
	}
}

// isAllRead reports whether all words are surely read.
func (x reading) isAllRead() bool { return x.surely() == len(x.needs) }

// waiting returns the same with a cell that takes some ticks more.
func (x reading) waiting(cell, ticks int) reading {
	x.Cells = slices.Clone(x.Cells)
	x.Cells[cell].Ticks.Low += ticks
	x.Cells[cell].Ticks.High += ticks
	return x
}

// stop returns the first cell that must take more ticks so that all words are surely read, and the least number of these; or false if there is none.
func (x reading) stop() (cell, ticks int, found bool) {
search:
	// in a view that takes as many ticks more as all words need, all of them are read
	for more := range sum.Of(x.needs...) + 1 {
		for at := range len(x.Cells) {
			if x.waiting(at, more).isAllRead() {
				cell, ticks, found = at, more, true
				break search
			}
		}
	}
	return cell, ticks, found
}
