package leaf

import (
	"cmp"
	"iter"
	"slices"

	"mahlstick/api"
	"mahlstick/best"
	"mahlstick/picks"
)

// cuttings goes through all cuttings of a job, in order.
func cuttings(j api.LeafJob) iter.Seq[[]int] {
	c := cutterOf(j)
	return picks.Lists(len(c.Pieces), len(c.Pieces), func(cutting []int, leaf int) bool {
		return leaf <= leaves(cutting) && c.fit(piecesOf(cutting, leaf).with(len(cutting)))
	})
}

// leaves returns how many leaves a cutting has.
func leaves(cutting []int) int {
	count := 0
	for _, leaf := range cutting {
		count = max(count, leaf+1)
	}
	return count
}

// piecesOf returns the pieces that have a leaf in a cutting.
func piecesOf(cutting []int, leaf int) set {
	var pieces set
	for piece := range cutting {
		if cutting[piece] == leaf {
			pieces = pieces.with(piece)
		}
	}
	return pieces
}

// bestCuttings returns all cuttings of a job with the fewest leaves, in order.
func bestCuttings(j api.LeafJob) [][]int {
	fewest, _ := best.Of(cuttings(j), func(a, b []int) bool { return leaves(a) < leaves(b) })
	var all [][]int
	for cutting := range cuttings(j) {
		if leaves(cutting) == leaves(fewest) {
			all = append(all, cutting)
		}
	}
	return all
}

// books returns how many books have so many leaves, if each one has some number of them.
func books(leaves, each int) int { return (leaves + each - 1) / each }

// rests goes through the sizes of all rectangles that can be cut from one leaf besides some pieces.
func rests(j api.LeafJob, pieces set) iter.Seq[rectangle] {
	return func(yield func(rectangle) bool) {
		for narrower := range j.Wide {
			for lower := range j.High {
				rest := rectangle{Wide: j.Wide - narrower, High: j.High - lower}
				with := cutterOf(withPiece(j, rest))
				if with.fit(pieces.with(len(j.Pieces))) && !yield(rest) {
					return
				}
			}
		}
	}
}

// withPiece returns a job with one piece more, of some size, that may not be turned.
func withPiece(j api.LeafJob, size rectangle) api.LeafJob {
	j.Pieces = append(slices.Clone(j.Pieces), api.LeafPiece{Wide: size.Wide, High: size.High})
	return j
}

// isLarger reports whether a rectangle has a greater area than another one, or the same area, and is wider.
func isLarger(a, b rectangle) bool {
	return cmp.Or(cmp.Compare(area(a), area(b)), cmp.Compare(a.Wide, b.Wide)) > 0
}
