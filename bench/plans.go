package bench

import (
	"iter"
	"slices"

	"mahlstick/api"
	"mahlstick/best"
	"mahlstick/picks"
)

// plans goes through all plans of a bench, in order.
func plans(b api.BenchBook) iter.Seq[planned] {
	return func(yield func(planned) bool) {
		lists := picks.Lists(len(b.Strokes), b.Apprentices+1, func(before []int, hand int) bool {
			return mayDo(b, len(before), hand)
		})
		for plan := range lists {
			if !yield(planOf(b, plan)) {
				return
			}
		}
	}
}

// plansOf goes through all plans of a bench with a plan that can differ from it in the hand of one stroke, in order.
func (x planned) plansOf(stroke int) iter.Seq[planned] {
	return func(yield func(planned) bool) {
		for hand := range x.Apprentices + 1 {
			plan := slices.Clone(x.plan)
			plan[stroke] = hand
			if mayDo(x.BenchBook, stroke, hand) && !yield(planOf(x.BenchBook, plan)) {
				return
			}
		}
	}
}

// soonest returns the first one of some plans that take the least hours; there is one at least, as the master may do everything.
func soonest(all iter.Seq[planned]) planned {
	first, _ := best.Of(all, func(a, b planned) bool { return a.takes() < b.takes() })
	return first
}

// bestPlans goes through all best plans of a bench, in order.
func bestPlans(b api.BenchBook) iter.Seq[planned] {
	hours := soonest(plans(b)).takes()
	return picks.Where(plans(b), func(x planned) bool { return x.takes() == hours })
}

// with returns a bench with another number of apprentices.
func with(b api.BenchBook, apprentices int) api.BenchBook {
	b.Apprentices = apprentices
	return b
}

// fewest returns the least number of apprentices with which some plan takes at most so many hours, or false if there is none.
func fewest(b api.BenchBook, hours int) (int, bool) {
	apprentices := 0
search:
	for ; apprentices <= api.BenchHands; apprentices++ {
		for x := range plans(with(b, apprentices)) {
			if x.takes() <= hours {
				break search
			}
		}
	}
	return apprentices, apprentices <= api.BenchHands
}
