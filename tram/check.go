package tram

import (
	"mahlstick/api"
	"mahlstick/letter"
	"mahlstick/limits"
)

// isSheet reports whether a sheet is as defined.
func isSheet(s api.TramSheet) bool {
	return areCells(s.Cells) && limits.IsFrom(1, s.At, len(s.Cells)) && limits.IsFrom(1, s.Reach, api.TramCells) &&
		limits.IsFrom(1, s.Pace, api.TramPace) && limits.IsFrom(0, s.Turn, api.TramTurn) && letter.Check(s.Name) == api.OK
}

func areCells(cells []api.TramCell) bool {
	if !limits.IsFrom(1, len(cells), api.TramCells) {
		return false
	}
	for _, cell := range cells {
		if !limits.IsSpan(1, cell.Ticks, api.TramTicks) {
			return false
		}
	}
	return true
}

// isRideOf reports whether a list is a ride of a sheet.
func isRideOf(s api.TramSheet, ride []int) bool {
	if len(ride) != len(s.Cells) {
		return false
	}
	for cell, ticks := range ride {
		its := s.Cells[cell].Ticks
		if !limits.IsFrom(its.Low, ticks, its.High) {
			return false
		}
	}
	return true
}

// isWordOf reports whether a number is that of a word of a sheet.
func isWordOf(s api.TramSheet, word int) bool { return limits.IsFrom(0, word, len(s.Name.Words)-1) }
