package coat_test

import (
	"slices"

	"mahlstick/api"
)

// This file has the chapter's definitions once more, as slow and as plain as can be, and sheets on which both are compared.

// modelHolds reports whether a plan holds in a weather.
func modelHolds(s api.CoatSheet, plan, weather []int) bool {
	for i, c := range s.Coats {
		last := i == len(s.Coats)-1
		dried := 0
		for day := plan[i]; day < len(weather) && (last || day < plan[i+1]); day++ {
			dried += weather[day]
		}
		if dried < c.Need || !last && dried > c.Peel {
			return false
		}
	}
	return true
}

// modelWeathers returns all weathers of a sheet, in order.
func modelWeathers(s api.CoatSheet) [][]int {
	all := [][]int{nil}
	for _, dry := range s.Dry {
		var longer [][]int
		for _, w := range all {
			for n := dry.Low; n <= dry.High; n++ {
				longer = append(longer, append(slices.Clone(w), n))
			}
		}
		all = longer
	}
	return all
}

// modelSurely reports whether a plan surely holds. If a coat is too early in some weather, it is in the one in which paint dries least; if it peels in some, it does in the one in which paint dries most.
func modelSurely(s api.CoatSheet, plan []int) bool {
	var least, most []int
	for _, dry := range s.Dry {
		least, most = append(least, dry.Low), append(most, dry.High)
	}
	return modelHolds(s, plan, least) && modelHolds(s, plan, most)
}

// modelPlans returns all plans of a sheet, in order.
func modelPlans(s api.CoatSheet) [][]int {
	var all [][]int
	for set := range 1 << len(s.Work) {
		var plan []int
		for i, day := range s.Work {
			if set>>i&1 == 1 {
				plan = append(plan, day)
			}
		}
		if len(plan) == len(s.Coats) {
			all = append(all, plan)
		}
	}
	slices.SortFunc(all, slices.Compare)
	return all
}

// modelSure returns all plans that surely hold, in order.
func modelSure(s api.CoatSheet) [][]int {
	return slices.DeleteFunc(modelPlans(s), func(plan []int) bool { return !modelSurely(s, plan) })
}

// modelSofter returns a sheet with so much greater a Peel of all coats.
func modelSofter(s api.CoatSheet, more int) api.CoatSheet {
	return with(s, func(s *api.CoatSheet) {
		for i := range s.Coats {
			s.Coats[i].Peel += more
		}
	})
}

// modelMend returns what Mend does.
func modelMend(s api.CoatSheet, plan []int, day int) ([]int, int, api.Errno) {
	var mended []int
	fewest := len(plan) + 1
	for _, p := range modelSure(s) {
		changes, may := 0, true
		for i := range p {
			if plan[i] < day {
				may = may && p[i] == plan[i]
			} else {
				may = may && p[i] >= day
			}
			if p[i] != plan[i] {
				changes++
			}
		}
		if may && changes < fewest {
			mended, fewest = p, changes
		}
	}
	if mended == nil {
		return nil, 0, api.ErrNone
	}
	return mended, fewest, api.OK
}

// dice is a row of numbers that look random and are the same each time.
type dice uint64

// upTo returns a number from 0 to one that is given.
func (d *dice) upTo(most int) int {
	*d = *d*6364136223846793005 + 1442695040888963407
	return int(uint64(*d) >> 33 % uint64(most+1))
}

// sheet returns a sheet as defined with so many days and coats at most, and with spans of so many numbers more than one. About as many of its plans surely hold as do not.
func (d *dice) sheet(days, coats, wide int) api.CoatSheet {
	var s api.CoatSheet
	dry := 1 + d.upTo(api.CoatDry-wide-1)
	for day := range 1 + d.upTo(days-1) {
		low := max(0, dry-d.upTo(4))
		s.Dry = append(s.Dry, span(low, low+d.upTo(wide)))
		if d.upTo(3) > 0 {
			s.Work = append(s.Work, day)
		}
	}
	for range 1 + d.upTo(coats-1) {
		need := 1 + d.upTo(2*dry)
		s.Coats = append(s.Coats, api.CoatCoat{Need: need, Peel: min(api.CoatPeel, need+d.upTo(3*dry+wide))})
	}
	return s
}

// small returns a sheet with not too many weathers.
func (d *dice) small() api.CoatSheet { return d.sheet(5, 3, 2) }

// large returns a sheet of any size.
func (d *dice) large() api.CoatSheet { return d.sheet(api.CoatDays, api.CoatCoats, 6) }

// clone returns a sheet that shares no memory with another one.
func clone(s api.CoatSheet) api.CoatSheet {
	return api.CoatSheet{Dry: slices.Clone(s.Dry), Work: slices.Clone(s.Work), Coats: slices.Clone(s.Coats)}
}

// with returns a sheet with a change.
func with(s api.CoatSheet, change func(*api.CoatSheet)) api.CoatSheet {
	s = clone(s)
	change(&s)
	return s
}

func sameSheet(a, b api.CoatSheet) bool {
	return slices.Equal(a.Dry, b.Dry) && slices.Equal(a.Work, b.Work) && slices.Equal(a.Coats, b.Coats)
}
