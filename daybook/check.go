package daybook

import (
	"mahlstick/api"
	"mahlstick/bench"
	"mahlstick/coat"
	"mahlstick/letter"
	"mahlstick/limits"
	"mahlstick/price"
	"mahlstick/strip"
	"mahlstick/tint"
)

// isSuite reports whether a suite is as defined.
func isSuite(s api.DaybookSuite) bool {
	return fits(s.Front) && hasPlan(s.Coats) && hasOrder(s.Board) && bench.Check(s.Bench) == api.OK &&
		tint.Check(s.Tints) == api.OK && len(s.Stock) == len(s.Tints.Tins) && limits.AreFrom(0, s.Stock, api.DaybookStock) &&
		price.Check(s.Prices) == api.OK && len(s.Prices.Boards) == len(s.Bench.Boards)
}

// fits reports whether a front is as defined, and its whole name fits.
func fits(front api.LetterSheet) bool {
	_, e := letter.Rows(front)
	return e == api.OK
}

// hasPlan reports whether coats are as defined, and some plan of them surely holds.
func hasPlan(coats api.CoatSheet) bool {
	_, e := coat.First(coats)
	return e == api.OK
}

// hasOrder reports whether a board is as defined, and its spots do not contradict each other.
func hasOrder(board api.StripBoard) bool {
	_, e := strip.First(board)
	return e == api.OK
}

// isFormed reports whether an entry is one that has a line.
func isFormed(x api.DaybookEntry) bool {
	return isOfRow(entries, int(x.Kind), x.Numbers) && limits.AreFrom(0, x.Numbers, api.DaybookNumber)
}

// isOfRow reports whether a table has a row of some kind, and the row so many numbers.
func isOfRow(table, kind int, numbers []int) bool {
	rows := tables()[table]
	return limits.IsFrom(1, kind, len(rows)-1) && rows[kind].has(numbers)
}
