package coat

import (
	"slices"

	"mahlstick/api"
	"mahlstick/limits"
)

// isSheet reports whether a sheet is as defined.
func isSheet(s api.CoatSheet) bool {
	return areDays(s.Dry) && limits.AreIncreasing(0, s.Work, len(s.Dry)-1) && areCoats(s.Coats)
}

func areDays(dry []api.Span) bool {
	return limits.IsFrom(1, len(dry), api.CoatDays) && limits.AreSpans(0, dry, api.CoatDry)
}

func areCoats(coats []api.CoatCoat) bool {
	if !limits.IsFrom(1, len(coats), api.CoatCoats) {
		return false
	}
	for _, coat := range coats {
		if !limits.IsFrom(1, coat.Need, api.CoatNeed) || !limits.IsFrom(coat.Need, coat.Peel, api.CoatPeel) {
			return false
		}
	}
	return true
}

// isPlan reports whether a plan of a sheet is as defined.
func isPlan(s api.CoatSheet, plan []int) bool {
	if len(plan) != len(s.Coats) || !limits.AreIncreasing(0, plan, len(s.Dry)-1) {
		return false
	}
	for _, day := range plan {
		if !slices.Contains(s.Work, day) {
			return false
		}
	}
	return true
}

// isWeather reports whether a weather of a sheet is as defined.
func isWeather(s api.CoatSheet, weather []int) bool {
	if len(weather) != len(s.Dry) {
		return false
	}
	for day, dry := range weather {
		if !limits.IsFrom(s.Dry[day].Low, dry, s.Dry[day].High) {
			return false
		}
	}
	return true
}

// isCoatOf reports whether a number is that of a coat of a sheet.
func isCoatOf(s api.CoatSheet, coat int) bool { return limits.IsFrom(0, coat, len(s.Coats)-1) }

// isDayOf reports whether a number is that of a day of a sheet.
func isDayOf(s api.CoatSheet, day int) bool { return limits.IsFrom(0, day, len(s.Dry)-1) }
