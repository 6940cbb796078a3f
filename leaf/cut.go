package leaf

import (
	"math/bits"

	"mahlstick/api"
)

// A rectangle is a leaf or a part of one.
type rectangle api.LeafSize

// area returns the sum of the areas of some rectangles.
func area(all ...rectangle) int {
	sum := 0
	for _, r := range all {
		sum += r.Wide * r.High
	}
	return sum
}

// holds reports whether another rectangle is no wider and no higher.
func (r rectangle) holds(other rectangle) bool {
	return other.Wide <= r.Wide && other.High <= r.High
}

// turned returns the rectangle that is as high as this one is wide, and as wide as it is high.
func (r rectangle) turned() rectangle { return rectangle{Wide: r.High, High: r.Wide} }

// upright returns both parts for each cut from the upper edge to the lower one.
func (r rectangle) upright() [][2]rectangle {
	var all [][2]rectangle
	for at := 1; at < r.Wide; at++ {
		all = append(all, [2]rectangle{{Wide: at, High: r.High}, {Wide: r.Wide - at, High: r.High}})
	}
	return all
}

// level returns both parts for each cut from the left edge to the right one.
func (r rectangle) level() [][2]rectangle {
	var all [][2]rectangle
	for at := 1; at < r.High; at++ {
		all = append(all, [2]rectangle{{Wide: r.Wide, High: at}, {Wide: r.Wide, High: r.High - at}})
	}
	return all
}

// A set is one of pieces: its bit n says whether the piece n is in it.
type set uint

// setOf returns the set of some pieces.
func setOf(pieces []int) set {
	var all set
	for _, piece := range pieces {
		all = all.with(piece)
	}
	return all
}

func (s set) has(piece int) bool { return s>>piece&1 == 1 }
func (s set) with(piece int) set { return s | 1<<piece }

// numbers returns the numbers of all pieces of a set, in increasing order.
func (s set) numbers() []int {
	var all []int
	for piece := range bits.Len(uint(s)) {
		if s.has(piece) {
			all = append(all, piece)
		}
	}
	return all
}

// A part is a rectangle of a leaf, and pieces that are to be cut from it.
type part struct {
	from   rectangle
	pieces set
}

// A cutter is a job with a leaf of it that is cut.
type cutter struct {
	api.LeafJob
	known map[part]bool // whether pieces can be cut from a rectangle
}

// cutterOf returns a job with a leaf that is not cut yet.
func cutterOf(j api.LeafJob) cutter { return cutter{j, map[part]bool{}} }

// fit reports whether some pieces fit together.
func (c cutter) fit(pieces set) bool {
	return c.canCut(rectangle{Wide: c.Wide, High: c.High}, pieces)
}

// noFit is the panic of pieces that do not fit together.
type noFit struct{}

// mustFit gives up if some pieces do not fit together.
func (c cutter) mustFit(pieces set) {
	if !c.fit(pieces) {
		panic(noFit{})
	}
}

// canCut reports whether some pieces can be cut from a rectangle.
func (c cutter) canCut(from rectangle, pieces set) bool {
	key := part{from, pieces}
	is, found := c.known[key]
	if !found {
		is = c.tryCut(from, pieces)
		c.known[key] = is
	}
	return is
}

// tryCut returns the same, but has to know it of smaller rectangles alone.
func (c cutter) tryCut(from rectangle, pieces set) bool {
	numbers := pieces.numbers()
	switch len(numbers) {
	case 0:
		return true
	case 1:
		// a part of the rectangle has no more room than all of it
		return c.holdsPiece(from, numbers[0])
	default:
		return area(c.sizes(numbers)...) <= area(from) && c.canDivide(from, pieces)
	}
}

// holdsPiece reports whether a piece is no larger than a rectangle, turned, if it may be.
func (c cutter) holdsPiece(from rectangle, piece int) bool {
	size := c.sizes([]int{piece})[0]
	return from.holds(size) || c.Pieces[piece].Turn && from.holds(size.turned())
}

// sizes returns the sizes of some pieces.
func (c cutter) sizes(pieces []int) []rectangle {
	var all []rectangle
	for _, piece := range pieces {
		all = append(all, rectangle{Wide: c.Pieces[piece].Wide, High: c.Pieces[piece].High})
	}
	return all
}

// canDivide reports whether a rectangle can be divided in two, so that some of the pieces can be cut from the one part, and all others from the other part.
func (c cutter) canDivide(from rectangle, pieces set) bool {
	ways := [...]func() [][2]rectangle{from.upright, from.level}
	can := false
search:
	for _, way := range ways {
		for _, parts := range way() {
			for some := range pieces + 1 {
				if some&^pieces == 0 && c.canCut(parts[0], some) && c.canCut(parts[1], pieces&^some) {
					can = true
					break search
				}
			}
		}
	}
	return can
}
