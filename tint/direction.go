package tint

import (
	"iter"

	"mahlstick/api"
	"mahlstick/picks"
)

// A direction has a number for each pigment.
type direction [3]int

// directions goes through all directions, in lexicographic order. The one with zeros alone is there, too: it parts nothing, as 0 is not less than 0.
func directions() iter.Seq[direction] {
	return func(yield func(direction) bool) {
		anything := func([]int, int) bool { return true }
		for list := range picks.Lists(3, 2*api.TintSide+1, anything) {
			if !yield(direction{list[0] - api.TintSide, list[1] - api.TintSide, list[2] - api.TintSide}) {
				return
			}
		}
	}
}

// values returns the least and the greatest value along the direction that amounts can have, each of them anything within its span.
func (d direction) values(amounts [3]api.Span) api.Span {
	var values api.Span
	for pigment, n := range d {
		one, other := n*amounts[pigment].Low, n*amounts[pigment].High
		values.Low += min(one, other)
		values.High += max(one, other)
	}
	return values
}

// size returns the sum of the direction's numbers without their signs.
func (d direction) size() int {
	total := 0
	for _, n := range d {
		total += max(n, -n)
	}
	return total
}

// firstDirection returns the first direction that parts all tins of a sheet from its board, or false if there is none.
func firstDirection(s api.TintSheet) (direction, bool) {
	board := aim(s)
search:
	for d := range directions() {
		for _, tin := range s.Tins {
			if d.values(tin.Pigments).High+s.Off*d.size() >= d.values(board).Low {
				continue search
			}
		}
		return d, true
	}
	return direction{}, false
}
