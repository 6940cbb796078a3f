package tint_test

import (
	"cmp"
	"slices"

	"mahlstick/api"
)

// This file has the chapter's definitions once more, as slow and as plain as can be, and sheets on which both are compared.

// modelBoard returns what a board has of a pigment after some years.
func modelBoard(old, years, fade int) int {
	for range years {
		old -= fade
	}
	if old < 0 {
		return 0
	}
	return old
}

// partsOf returns how many parts a mixture has together.
func partsOf(mix []int) int {
	all := 0
	for _, parts := range mix {
		all += parts
	}
	return all
}

// distance returns by how much two numbers differ.
func distance(a, b int) int {
	if a < b {
		return b - a
	}
	return a - b
}

// modelSum returns what all parts of a mixture have of a pigment in a truth.
func modelSum(mix []int, t api.TintTruth, pigment int) int {
	all := 0
	for tin, parts := range mix {
		for range parts {
			all += t.Tins[tin][pigment]
		}
	}
	return all
}

// modelTrue reports whether a mixture matches in a truth.
func modelTrue(s api.TintSheet, mix []int, t api.TintTruth) bool {
	parts := partsOf(mix)
	for pigment := range 3 {
		if distance(modelSum(mix, t, pigment), parts*modelBoard(s.Old[pigment], t.Years, t.Fade[pigment])) > parts*s.Off {
			return false
		}
	}
	return true
}

// modelTruths returns all truths of a sheet.
func modelTruths(s api.TintSheet) []api.TintTruth {
	all := []api.TintTruth{{Tins: make([][3]int, len(s.Tins))}}
	// each truth is there once for each number of a span
	spread := func(span api.Span, set func(t *api.TintTruth, n int)) {
		var more []api.TintTruth
		for _, t := range all {
			for n := span.Low; n <= span.High; n++ {
				next := cloneTruth(t)
				set(&next, n)
				more = append(more, next)
			}
		}
		all = more
	}
	spread(s.Years, func(t *api.TintTruth, n int) { t.Years = n })
	for pigment := range 3 {
		spread(s.Fade[pigment], func(t *api.TintTruth, n int) { t.Fade[pigment] = n })
		for tin := range s.Tins {
			spread(s.Tins[tin].Pigments[pigment], func(t *api.TintTruth, n int) { t.Tins[tin][pigment] = n })
		}
	}
	return all
}

// modelMixtures returns all mixtures of so many tins, in order.
func modelMixtures(tins int) [][]int {
	all := [][]int{nil}
	for range tins {
		var longer [][]int
		for _, mix := range all {
			for parts := range api.TintParts + 1 {
				longer = append(longer, append(slices.Clone(mix), parts))
			}
		}
		all = longer
	}
	all = slices.DeleteFunc(all, func(mix []int) bool { return partsOf(mix) < 1 || partsOf(mix) > api.TintParts })
	slices.SortFunc(all, func(a, b []int) int {
		return cmp.Or(cmp.Compare(partsOf(a), partsOf(b)), slices.Compare(a, b))
	})
	return all
}

// modelSums returns all sums that a mixture can have of a pigment, in increasing order.
func modelSums(s api.TintSheet, mix []int, pigment int) []int {
	sums := []int{0}
	for tin, parts := range mix {
		span := s.Tins[tin].Pigments[pigment]
		var more []int
		for _, sum := range sums {
			for n := span.Low; n <= span.High; n++ {
				more = append(more, sum+parts*n)
			}
		}
		slices.Sort(more)
		sums = slices.Compact(more)
	}
	return sums
}

// modelDistances returns by how much a mixture and the board can differ in a pigment, after so many years.
func modelDistances(s api.TintSheet, mix []int, pigment, years int) []int {
	var all []int
	for _, sum := range modelSums(s, mix, pigment) {
		for fade := s.Fade[pigment].Low; fade <= s.Fade[pigment].High; fade++ {
			all = append(all, distance(sum, partsOf(mix)*modelBoard(s.Old[pigment], years, fade)))
		}
	}
	return all
}

// modelYears returns all numbers of years after which a mixture can match. Each pigment is by itself, once it is known how many years it is.
func modelYears(s api.TintSheet, mix []int) []int {
	var all []int
	for years := s.Years.Low; years <= s.Years.High; years++ {
		can := true
		for pigment := range 3 {
			can = can && slices.Min(modelDistances(s, mix, pigment, years)) <= partsOf(mix)*s.Off
		}
		if can {
			all = append(all, years)
		}
	}
	return all
}

// modelFarOff returns how far off a mixture can be. No sum is further off than the least or the greatest one.
func modelFarOff(s api.TintSheet, mix []int) int {
	most := 0
	for pigment := range 3 {
		sum := [2]int{}
		for tin, parts := range mix {
			sum[0] += parts * s.Tins[tin].Pigments[pigment].Low
			sum[1] += parts * s.Tins[tin].Pigments[pigment].High
		}
		for years := s.Years.Low; years <= s.Years.High; years++ {
			for fade := s.Fade[pigment].Low; fade <= s.Fade[pigment].High; fade++ {
				board := partsOf(mix) * modelBoard(s.Old[pigment], years, fade)
				most = max(most, distance(sum[0], board), distance(sum[1], board))
			}
		}
	}
	off := 0
	for partsOf(mix)*off < most {
		off++
	}
	return off
}

// modelSurely reports whether a mixture surely matches.
func modelSurely(s api.TintSheet, mix []int) bool { return modelFarOff(s, mix) <= s.Off }

// modelWord returns whether a mixture matches.
func modelWord(s api.TintSheet, mix []int) api.TintWord {
	switch {
	case modelSurely(s, mix):
		return surely
	case len(modelYears(s, mix)) > 0:
		return may
	default:
		return never
	}
}

// modelSure returns all mixtures that surely match, in order.
func modelSure(s api.TintSheet) [][]int {
	return slices.DeleteFunc(modelMixtures(len(s.Tins)), func(mix []int) bool { return !modelSurely(s, mix) })
}

// modelNeeds returns the fewest tins of which one of some mixtures has parts alone.
func modelNeeds(tins int, mixtures [][]int) []int {
	for _, list := range subsets(tins) {
		for _, mix := range mixtures {
			others := 0
			for tin, parts := range mix {
				if !slices.Contains(list, tin) {
					others += parts
				}
			}
			if others == 0 {
				return list
			}
		}
	}
	return nil
}

// subsets returns all lists of numbers below one, in increasing order: those with fewer numbers first, and of as many the first one in lexicographic order.
func subsets(count int) [][]int {
	var all [][]int
	for choice := range 1 << count {
		var list []int
		for i := range count {
			if choice>>i&1 == 1 {
				list = append(list, i)
			}
		}
		all = append(all, list)
	}
	slices.SortFunc(all, func(a, b []int) int {
		return cmp.Or(cmp.Compare(len(a), len(b)), slices.Compare(a, b))
	})
	return all
}

// modelValue returns the greatest value of some amounts along a direction, or the least one if sign is -1.
func modelValue(direction [3]int, amounts [3]api.Span, sign int) int {
	var all []int
	for corner := range 8 {
		value := 0
		for pigment, n := range direction {
			if corner>>pigment&1 == 1 {
				value += n * amounts[pigment].High
			} else {
				value += n * amounts[pigment].Low
			}
		}
		all = append(all, sign*value)
	}
	return sign * slices.Max(all)
}

// modelParts reports whether a direction parts all tins of a sheet from its board, if this has amounts within bounds.
func modelParts(s api.TintSheet, direction [3]int, board [3]api.Span) bool {
	off := s.Off * (distance(direction[0], 0) + distance(direction[1], 0) + distance(direction[2], 0))
	for _, tin := range s.Tins {
		if modelValue(direction, tin.Pigments, 1)+off >= modelValue(direction, board, -1) {
			return false
		}
	}
	return direction != [3]int{}
}

// modelAim returns the least and the greatest amounts that the board has.
func modelAim(s api.TintSheet) [3]api.Span {
	var bounds [3]api.Span
	for pigment := range 3 {
		var all []int
		for years := s.Years.Low; years <= s.Years.High; years++ {
			for fade := s.Fade[pigment].Low; fade <= s.Fade[pigment].High; fade++ {
				all = append(all, modelBoard(s.Old[pigment], years, fade))
			}
		}
		bounds[pigment] = span(slices.Min(all), slices.Max(all))
	}
	return bounds
}

// modelProof returns the first direction that parts all tins of a sheet from its board, or false.
func modelProof(s api.TintSheet) ([3]int, bool) {
	board := modelAim(s)
	for a := -2; a <= 2; a++ {
		for b := -2; b <= 2; b++ {
			for c := -2; c <= 2; c++ {
				if modelParts(s, [3]int{a, b, c}, board) {
					return [3]int{a, b, c}, true
				}
			}
		}
	}
	return [3]int{}, false
}

// dice is a row of numbers that look random and are the same each time.
type dice uint64

// upTo returns a number from 0 to one that is given.
func (d *dice) upTo(most int) int {
	*d = *d*6364136223846793005 + 1442695040888963407
	return int(uint64(*d) >> 33 % uint64(most+1))
}

// within returns a number of a span.
func (d *dice) within(span api.Span) int { return span.Low + d.upTo(span.High-span.Low) }

// someSpan returns a span from 0 to a number at most, with at most so many numbers more than one.
func (d *dice) someSpan(most, wide int) api.Span {
	low := d.upTo(most)
	return span(low, min(most, low+d.upTo(wide)))
}

// mixture returns a mixture of so many tins.
func (d *dice) mixture(tins int) []int {
	mix := make([]int, tins)
	for range 1 + d.upTo(api.TintParts-1) {
		mix[d.upTo(tins-1)]++
	}
	return mix
}

// truth returns a truth of a sheet.
func (d *dice) truth(s api.TintSheet) api.TintTruth {
	t := api.TintTruth{Years: d.within(s.Years)}
	for pigment, fade := range s.Fade {
		t.Fade[pigment] = d.within(fade)
	}
	for _, tin := range s.Tins {
		var amounts [3]int
		for pigment, amount := range tin.Pigments {
			amounts[pigment] = d.within(amount)
		}
		t.Tins = append(t.Tins, amounts)
	}
	return t
}

// sheet returns a sheet with so many tins, whose spans have so many numbers more than one at most: those of tins, of Years and of Fade. Some mixture is not far off, but for one sheet of so many.
func (d *dice) sheet(tins, wide, years, fades, wrong int) api.TintSheet {
	s := api.TintSheet{Years: d.someSpan(api.TintYears, years), Off: 1 + min(d.upTo(api.TintOff-1), d.upTo(api.TintOff-1))}
	for range tins {
		var tin api.TintTin
		for pigment := range tin.Pigments {
			tin.Pigments[pigment] = d.someSpan(api.TintMost, wide)
		}
		s.Tins = append(s.Tins, tin)
	}
	mix := d.mixture(tins)
	far := d.upTo(wrong) == 0
	for pigment := range s.Old {
		s.Fade[pigment] = d.someSpan(d.upTo(d.upTo(api.TintFade)), fades)
		has := modelSum(mix, d.truth(s), pigment)/partsOf(mix) + d.within(s.Years)*d.within(s.Fade[pigment])
		if far {
			has = d.upTo(api.TintMost)
		}
		s.Old[pigment] = min(api.TintMost, has)
	}
	return s
}

// small returns a sheet with not too many truths.
func (d *dice) small() api.TintSheet {
	if d.upTo(1) == 0 {
		return d.sheet(1, 4, 2, 1, 5)
	}
	return d.sheet(2, 1, 2, 1, 5)
}

// any returns a sheet of any size.
func (d *dice) any() api.TintSheet {
	return d.sheet(1+d.upTo(api.TintTins-1), d.upTo(8), d.upTo(6), d.upTo(3), 1+d.upTo(4))
}

// faded returns a sheet of a board that can match after some years, often after others before and behind these, too.
func (d *dice) faded() api.TintSheet {
	s := api.TintSheet{Years: span(0, api.TintYears), Off: 1 + d.upTo(1), Tins: []api.TintTin{tin(0, 99, 0, 99, 0, 99)}}
	pigment, has := d.upTo(2), d.upTo(20)
	s.Old[pigment], s.Fade[pigment] = has+5+d.upTo(20), span(1, 3+d.upTo(6))
	s.Tins[0].Pigments[pigment] = span(has, has)
	return s
}

// cloneTruth returns a truth that shares no memory with another one.
func cloneTruth(t api.TintTruth) api.TintTruth {
	t.Tins = slices.Clone(t.Tins)
	return t
}

// clone returns a sheet that shares no memory with another one.
func clone(s api.TintSheet) api.TintSheet {
	s.Tins = slices.Clone(s.Tins)
	return s
}

// with returns a sheet with a change.
func with(s api.TintSheet, change func(*api.TintSheet)) api.TintSheet {
	s = clone(s)
	change(&s)
	return s
}

// withTruth returns a truth with a change.
func withTruth(t api.TintTruth, change func(*api.TintTruth)) api.TintTruth {
	t = cloneTruth(t)
	change(&t)
	return t
}

func sameSheet(a, b api.TintSheet) bool {
	return a.Old == b.Old && a.Fade == b.Fade && a.Years == b.Years && a.Off == b.Off && slices.Equal(a.Tins, b.Tins)
}
