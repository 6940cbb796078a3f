package price

import (
	"mahlstick/api"
	"mahlstick/limits"
)

// hundred is how many percent all of something is.
const hundred = 100

// isSheet reports whether a sheet is as defined.
func isSheet(s api.PriceSheet) bool {
	return limits.IsFrom(1, len(s.Offs), api.PriceOwners) && limits.AreFrom(0, s.Offs, hundred) &&
		areBoards(s.Boards, len(s.Offs)) && areTariffs(s.Tariffs)
}

func areBoards(boards []api.PriceBoard, owners int) bool {
	for _, board := range boards {
		if !isBoard(board) || !limits.IsFrom(0, board.Owner, owners-1) {
			return false
		}
	}
	return limits.IsFrom(1, len(boards), api.PriceBoards)
}

// isBoard reports whether a board is as defined, whoever has it.
func isBoard(b api.PriceBoard) bool {
	return limits.IsFrom(0, b.Letters, api.PriceLetters) && limits.IsFrom(0, b.Feet, api.PriceFeet) &&
		limits.IsSpan(0, b.Hours, api.PriceHours) && b.Hours.High-b.Hours.Low <= api.PriceWide
}

func areTariffs(tariffs []api.PriceTariff) bool {
	for _, tariff := range tariffs {
		if !isTariff(tariff) {
			return false
		}
	}
	return limits.IsFrom(1, len(tariffs), api.PriceTariffs)
}

func isTariff(t api.PriceTariff) bool {
	return api.PriceLetter <= t.Kind && t.Kind <= api.PriceFriend && api.PriceDown <= t.Rule && t.Rule <= api.PriceEven &&
		limits.IsFrom(0, t.Coins, api.PriceCoins) && limits.IsFrom(1, t.Units, api.PriceUnits)
}

// isTariffOf reports whether a number is that of a tariff of a sheet.
func isTariffOf(s api.PriceSheet, tariff int) bool { return limits.IsFrom(0, tariff, len(s.Tariffs)-1) }

// areTwoOf reports whether numbers are those of two tariffs of a sheet.
func areTwoOf(s api.PriceSheet, one, other int) bool {
	return isTariffOf(s, one) && isTariffOf(s, other) && one != other
}

// areHoursOf reports whether a list is one of hours of a sheet.
func areHoursOf(s api.PriceSheet, hours []int) bool {
	if len(hours) != len(s.Boards) {
		return false
	}
	for board, number := range hours {
		if !areHours(s.Boards[board], number) {
			return false
		}
	}
	return true
}

// areHours reports whether a board can take so many hours.
func areHours(b api.PriceBoard, number int) bool {
	return limits.IsFrom(b.Hours.Low, number, b.Hours.High)
}
