package sight

import (
	"iter"
	"slices"

	"mahlstick/api"
	"mahlstick/picks"
)

// places goes through all places of a street, in order.
func places(s api.SightStreet) iter.Seq[api.SightPlace] {
	return func(yield func(api.SightPlace) bool) {
		for along := range s.Length + 1 {
			for across := range s.Width {
				if !yield(api.SightPlace{Along: along, Across: across + 1}) {
					return
				}
			}
		}
	}
}

// where goes through all places of a street of which something is so, in order.
func where(s api.SightStreet, is func(api.SightPlace) bool) iter.Seq[api.SightPlace] {
	return picks.Where(places(s), is)
}

// count returns of how many places of a street something is so.
func count(s api.SightStreet, is func(api.SightPlace) bool) int {
	n := 0
	for range where(s, is) {
		n++
	}
	return n
}

// readFrom returns whether a board is read from each place of a street.
func readFrom(s api.SightStreet, b api.SightBoard) map[api.SightPlace]api.SightWord {
	from := map[api.SightPlace]api.SightWord{}
	for place := range places(s) {
		from[place] = seen(s, b, place)
	}
	return from
}

// enlarged returns a board with letters that are so many times as large.
func enlarged(b api.SightBoard, times int) api.SightBoard {
	b.Letters = slices.Clone(b.Letters)
	for i, letter := range b.Letters {
		b.Letters[i] = api.SightLetter{Height: letter.Height * times, Width: letter.Width * times, Stroke: letter.Stroke * times, Space: letter.Space * times}
	}
	return b
}

// A hanging is where a board is, and from how many places it is surely read there.
type hanging struct{ at, places int }

// hangings goes through all that a board can have in a street, in order.
func hangings(s api.SightStreet, b api.SightBoard) iter.Seq[hanging] {
	return func(yield func(hanging) bool) {
		for at := range s.Length + 1 {
			b.At = at
			n := count(s, func(p api.SightPlace) bool { return isSurelyRead(s, b, p) })
			if !yield(hanging{at, n}) {
				return
			}
		}
	}
}
