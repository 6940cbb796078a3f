package strip

import (
	"mahlstick/api"
	"mahlstick/limits"
)

// isBoard reports whether a board is as defined.
func isBoard(b api.StripBoard) bool {
	if !limits.IsFrom(1, b.Names, api.StripNames) {
		return false
	}
	for _, spot := range b.Spots {
		if !isSpotOf(b, spot) {
			return false
		}
	}
	return len(b.Spots) <= api.StripSpots
}

// isSpotOf reports whether a spot of a board is as defined.
func isSpotOf(b api.StripBoard, spot []int) bool {
	return limits.IsFrom(1, len(spot), api.StripLayers) && limits.AreDifferent(0, spot, b.Names-1)
}

// isOrderOf reports whether an order of the names of a board is as defined.
func isOrderOf(b api.StripBoard, order []int) bool {
	return len(order) == b.Names && limits.AreDifferent(0, order, b.Names-1)
}

// isNameOf reports whether a number is that of a name of a board.
func isNameOf(b api.StripBoard, name int) bool { return limits.IsFrom(0, name, b.Names-1) }

// arePairOf reports whether two numbers are those of two names of a board.
func arePairOf(b api.StripBoard, one, other int) bool {
	return isNameOf(b, one) && isNameOf(b, other) && one != other
}
