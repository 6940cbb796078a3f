package strip

import (
	"iter"
	"slices"

	"mahlstick/api"
	"mahlstick/best"
	"mahlstick/picks"
)

// misses returns all spots of a board that contradict an order, in increasing order.
func misses(b api.StripBoard, order []int) []int {
	var all []int
spots:
	for spot, names := range b.Spots {
		for i := range len(names) - 1 {
			if slices.Index(order, names[i]) > slices.Index(order, names[i+1]) {
				all = append(all, spot)
				continue spots
			}
		}
	}
	return all
}

// doAgree reports whether spots of a board do not contradict each other, if it has these alone.
func doAgree(b api.StripBoard, spots [][]int) bool {
	b.Spots = spots
	return relate(b).agree()
}

// clashes goes through all lists of spots of a board that contradict each other, in lexicographic order.
func clashes(b api.StripBoard) iter.Seq[[]int] {
	return picks.Where(picks.OfFirst(len(b.Spots)), func(spots []int) bool {
		return !doAgree(b, picks.With(b.Spots, spots))
	})
}

// enough goes through all lists of spots of a board without which all others do not contradict each other, in lexicographic order.
func enough(b api.StripBoard) iter.Seq[[]int] {
	return picks.Where(picks.OfFirst(len(b.Spots)), func(spots []int) bool {
		return doAgree(b, picks.Without(b.Spots, spots))
	})
}

// isShorter reports whether a list is shorter than another one.
func isShorter(a, b []int) bool { return len(a) < len(b) }

// wrongLists returns all lists of wrong spots of a board, in lexicographic order; there is one at least, as nothing contradicts a board without spots.
func wrongLists(b api.StripBoard) [][]int {
	fewest, _ := best.Of(enough(b), isShorter)
	return slices.Collect(picks.Where(enough(b), func(spots []int) bool {
		return len(spots) == len(fewest)
	}))
}

// howMany returns in how many of some lists a number is.
func howMany(lists [][]int, number int) int {
	count := 0
	for _, list := range lists {
		if slices.Contains(list, number) {
			count++
		}
	}
	return count
}

// united returns a board on which one name stands in place of another one at all spots. Where both were seen, the name is there twice, so that it would come before itself.
func united(b api.StripBoard, one, other int) api.StripBoard {
	var spots [][]int
	for _, spot := range b.Spots {
		spot = slices.Clone(spot)
		if i := slices.Index(spot, other); i >= 0 {
			spot[i] = one
		}
		spots = append(spots, spot)
	}
	b.Spots = spots
	return b
}
