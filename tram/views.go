package tram

import (
	"iter"

	"mahlstick/api"
	"mahlstick/limits"
)

// seenFrom returns from which cells of a sheet the board is seen: it is in reach, and they are not hidden.
func seenFrom(s api.TramSheet) map[int]bool {
	seen := map[int]bool{}
	for cell := range len(s.Cells) {
		seen[cell] = limits.IsFrom(s.At-s.Reach, cell, s.At-1) && !s.Cells[cell].Hidden
	}
	return seen
}

// views goes through all views of a sheet, in order.
func views(s api.TramSheet) iter.Seq[api.Span] {
	return func(yield func(api.Span) bool) {
		seen := seenFrom(s)
		first := 0
		for cell := range len(s.Cells) {
			// from cells that there are not the board is not seen
			if !seen[cell-1] {
				first = cell
			}
			if seen[cell] && !seen[cell+1] && !yield(api.Span{Low: first, High: cell}) {
				return
			}
		}
	}
}
