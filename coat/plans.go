package coat

import (
	"iter"
	"slices"

	"mahlstick/api"
	"mahlstick/picks"
)

// laying is a coat that is laid on a day.
type laying struct{ coat, day int }

// goingOn returns whether a coat that is laid on a day of work surely holds with all coats after it, if these are laid on the right days.
func (x sums) goingOn() map[laying]bool {
	known := map[laying]bool{}
	for after := range len(x.Coats) {
		coat := len(x.Coats) - 1 - after
		for _, day := range x.Work {
			known[laying{coat, day}] = x.goesOn(known, coat, day)
		}
	}
	return known
}

// goesOn returns the same of one coat and one day, if it is known of the next coat.
func (x sums) goesOn(known map[laying]bool, coat, day int) bool {
	if x.isLast(coat) {
		return x.dries(coat, day, len(x.Dry))
	}
	for _, next := range x.Work {
		if known[laying{coat + 1, next}] && x.dries(coat, day, next) {
			return true
		}
	}
	return false
}

// dries reports whether a coat surely holds that is laid on a day, and dries up to the day before another one, which is later.
func (x sums) dries(coat, from, to int) bool {
	return from < to && x.whyNot(x.atWorst(), coat, from, to) == 0
}

// plans goes through all plans that surely hold, in order.
func (x sums) plans() iter.Seq[[]int] {
	known := x.goingOn()
	return picks.Lists(len(x.Coats), len(x.Dry), func(plan []int, day int) bool {
		coat := len(plan)
		return known[laying{coat, day}] && (coat == 0 || x.dries(coat-1, plan[coat-1], day))
	})
}

// plansAfter goes through all plans that surely hold, and differ from a given one from some day on alone, in order.
func (x sums) plansAfter(given []int, day int) iter.Seq[[]int] {
	return picks.Where(x.plans(), func(plan []int) bool { return keeps(given, plan, day) })
}

// keeps reports whether a plan has all days of a given one that are before a day, and no other ones before it.
func keeps(given, plan []int, day int) bool {
	for coat := range given {
		if min(given[coat], plan[coat]) < day && given[coat] != plan[coat] {
			return false
		}
	}
	return true
}

// changes returns how many coats have other days in a plan than in a given one.
func changes(given, plan []int) int {
	count := 0
	for coat := range given {
		if given[coat] != plan[coat] {
			count++
		}
	}
	return count
}

// length returns how many days there are from the first coat of a plan to the last one.
func length(plan []int) int { return plan[len(plan)-1] - plan[0] }

// hasPlan reports whether some plan of a sheet surely holds.
func hasPlan(s api.CoatSheet) bool {
	for range summed(s).plans() {
		return true
	}
	return false
}

// neverPeeling returns a sheet with the same coats, none of which can peel.
func neverPeeling(s api.CoatSheet) api.CoatSheet {
	s.Coats = slices.Clone(s.Coats)
	for coat := range s.Coats {
		s.Coats[coat].Peel = api.CoatDays * api.CoatDry
	}
	return s
}

// excess returns by how much coats dry too much at most with a plan, so that they peel.
func (x sums) excess(plan []int) int {
	most := 0
	for coat := range len(plan) - 1 {
		most = max(most, x.greatest(plan[coat], plan[coat+1])-x.Coats[coat].Peel)
	}
	return most
}
