package daybook

import (
	"slices"

	"mahlstick/api"
)

// copied returns a suite that shares no memory with another one, which is as defined.
func copied(s api.DaybookSuite) api.DaybookSuite {
	s.Front = copiedFront(s.Front)
	s.Coats.Dry = slices.Clone(s.Coats.Dry)
	s.Coats.Work = slices.Clone(s.Coats.Work)
	s.Coats.Coats = slices.Clone(s.Coats.Coats)
	s.Board.Spots = slices.Clone(s.Board.Spots)
	for spot, names := range s.Board.Spots {
		s.Board.Spots[spot] = slices.Clone(names)
	}
	s.Bench = copiedBench(s.Bench)
	s.Tints.Tins = slices.Clone(s.Tints.Tins)
	s.Stock = slices.Clone(s.Stock)
	s.Prices.Offs = slices.Clone(s.Prices.Offs)
	s.Prices.Boards = slices.Clone(s.Prices.Boards)
	s.Prices.Tariffs = slices.Clone(s.Prices.Tariffs)
	return s
}

func copiedFront(front api.LetterSheet) api.LetterSheet {
	front.Widths = slices.Clone(front.Widths)
	front.Pairs = slices.Clone(front.Pairs)
	front.Words = slices.Clone(front.Words)
	for number := range front.Words {
		word := &front.Words[number]
		word.Signs, word.Cuts = slices.Clone(word.Signs), slices.Clone(word.Cuts)
	}
	return front
}

func copiedBench(b api.BenchBook) api.BenchBook {
	b.Boards = slices.Clone(b.Boards)
	b.Strokes = slices.Clone(b.Strokes)
	for number := range b.Strokes {
		stroke := &b.Strokes[number]
		stroke.Needs = slices.Clone(stroke.Needs)
	}
	return b
}
