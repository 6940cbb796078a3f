package price

import (
	"iter"

	"mahlstick/api"
	"mahlstick/picks"
)

// hoursOf goes through all lists of hours of a sheet, in order.
func hoursOf(s api.PriceSheet) iter.Seq[[]int] {
	return picks.Lists(len(s.Boards), api.PriceHours+1, func(before []int, next int) bool {
		return areHours(s.Boards[len(before)], next)
	})
}

// same returns what reports whether as much is paid by two tariffs of a sheet with some hours.
func same(s api.PriceSheet, one, other int) func(hours []int) bool {
	// it is made once for all hours, so that it knows what was paid with those before
	x := estimateOf(s, one, nil)
	return func(hours []int) bool {
		return x.with(hours).paid() == x.with(hours).by(s.Tariffs[other]).paid()
	}
}

// alike goes through all hours with which as much is paid by two tariffs, in order.
func alike(s api.PriceSheet, one, other int) iter.Seq[[]int] {
	return picks.Where(hoursOf(s), same(s, one, other))
}

// unlike is the panic of tariffs that are not the same.
type unlike struct{}

// mustBeSame gives up if not as much is paid by two tariffs with all hours.
func mustBeSame(s api.PriceSheet, one, other int) {
	is := same(s, one, other)
	for hours := range hoursOf(s) {
		if !is(hours) {
			panic(unlike{})
		}
	}
}

// wordOf returns whether as much is paid by two tariffs with all hours, with some, or with none.
func wordOf(s api.PriceSheet, one, other int) api.PriceWord {
	e := tried(func() { mustBeSame(s, one, other) })
	if e == api.OK {
		return api.PriceSurely
	}
	for range alike(s, one, other) {
		return api.PriceMay
	}
	return api.PriceNever
}

// ends returns the least and the greatest hours of each board.
func ends(boards []api.PriceBoard) (least, greatest []int) {
	for _, board := range boards {
		least, greatest = append(least, board.Hours.Low), append(greatest, board.Hours.High)
	}
	return least, greatest
}
