package strip_test

import (
	"cmp"
	"slices"

	"mahlstick/api"
)

// This file has the chapter's definitions once more, as slow and as plain as can be, and boards on which both are compared.

// lists returns all lists of so many numbers from 0 to one less than a limit, in lexicographic order.
func lists(length, limit int) [][]int {
	all := [][]int{nil}
	for range length {
		var longer [][]int
		for _, list := range all {
			for n := range limit {
				longer = append(longer, append(slices.Clone(list), n))
			}
		}
		all = longer
	}
	return all
}

// differing returns all lists of some length of so many names, none twice, in lexicographic order.
func differing(length, names int) [][]int {
	all := [][]int{nil}
	for range length {
		var longer [][]int
		for _, list := range all {
			for n := range names {
				if !slices.Contains(list, n) {
					longer = append(longer, append(slices.Clone(list), n))
				}
			}
		}
		all = longer
	}
	return all
}

// allOrders returns all orders of so many names, in lexicographic order.
func allOrders(names int) [][]int { return differing(names, names) }

// allSpots returns all spots that can be of so many names.
func allSpots(names int) [][]int {
	var all [][]int
	for length := 1; length <= min(names, api.StripLayers); length++ {
		all = append(all, differing(length, names)...)
	}
	return all
}

// contradicts reports whether some name of a spot comes in an order after a name that comes later in the spot.
func contradicts(spot, order []int) bool {
	for i, earlier := range spot {
		for _, later := range spot[i+1:] {
			if slices.Index(order, earlier) > slices.Index(order, later) {
				return true
			}
		}
	}
	return false
}

// modelMisses returns all spots of a board that contradict an order.
func modelMisses(b api.StripBoard, order []int) []int {
	var all []int
	for i, spot := range b.Spots {
		if contradicts(spot, order) {
			all = append(all, i)
		}
	}
	return all
}

// modelOrders returns all orders of a board that no spot contradicts, in lexicographic order.
func modelOrders(b api.StripBoard) [][]int {
	return slices.DeleteFunc(allOrders(b.Names), func(order []int) bool { return len(modelMisses(b, order)) > 0 })
}

// modelWord returns in which of some orders something is so; 0 if there are none.
func modelWord(orders [][]int, is func(order []int) bool) api.StripWord {
	count := 0
	for _, order := range orders {
		if is(order) {
			count++
		}
	}
	switch {
	case len(orders) == 0:
		return 0
	case count == len(orders):
		return surely
	case count > 0:
		return may
	default:
		return never
	}
}

// subsets returns all lists of numbers below one, in increasing order: those with fewer numbers first, and of as many the first one in lexicographic order.
func subsets(count int) [][]int {
	var all [][]int
	for choice := range 1 << count {
		var list []int
		for i := range count {
			if choice>>i&1 == 1 {
				list = append(list, i)
			}
		}
		all = append(all, list)
	}
	slices.SortFunc(all, func(a, b []int) int {
		return cmp.Or(cmp.Compare(len(a), len(b)), slices.Compare(a, b))
	})
	return all
}

// clashing returns, for each list of spots of a board, in the order of subsets, whether these contradict each other, and whether all others do.
func clashing(b api.StripBoard) (these, others []bool) {
	var missed [][]int
	for _, order := range allOrders(b.Names) {
		missed = append(missed, modelMisses(b, order))
	}
	for _, spots := range subsets(len(b.Spots)) {
		these = append(these, !slices.ContainsFunc(missed, func(misses []int) bool {
			return !slices.ContainsFunc(misses, func(spot int) bool { return slices.Contains(spots, spot) })
		}))
		others = append(others, !slices.ContainsFunc(missed, func(misses []int) bool {
			return !slices.ContainsFunc(misses, func(spot int) bool { return !slices.Contains(spots, spot) })
		}))
	}
	return these, others
}

// modelClash returns the shortest list of spots that contradict each other, or false.
func modelClash(b api.StripBoard) ([]int, bool) {
	these, _ := clashing(b)
	for i, spots := range subsets(len(b.Spots)) {
		if these[i] {
			return spots, true
		}
	}
	return nil, false
}

// modelWrong returns all lists of wrong spots of a board, in lexicographic order.
func modelWrong(b api.StripBoard) [][]int {
	_, others := clashing(b)
	var all [][]int
	for i, spots := range subsets(len(b.Spots)) {
		if !others[i] && (len(all) == 0 || len(all[0]) == len(spots)) {
			all = append(all, spots)
		}
	}
	return all
}

// modelSame reports whether two names can be those of one owner.
func modelSame(b api.StripBoard, one, other int) bool {
	united := clone(b)
	for _, spot := range united.Spots {
		if slices.Contains(spot, one) && slices.Contains(spot, other) {
			return false
		}
		for i, name := range spot {
			if name == other {
				spot[i] = one
			}
		}
	}
	return len(modelOrders(united)) > 0
}

// areOwners reports whether each name can be given a number of some, so that in each spot each name has a greater one than the name before it.
func areOwners(b api.StripBoard, numbers []int) bool {
	for _, spot := range b.Spots {
		for i := 1; i < len(spot); i++ {
			if numbers[spot[i]] <= numbers[spot[i-1]] {
				return false
			}
		}
	}
	return true
}

// modelOwners returns the least number of owners of which all names can be.
func modelOwners(b api.StripBoard) int {
	for count := 1; count <= b.Names; count++ {
		for _, numbers := range lists(b.Names, count) {
			if areOwners(b, numbers) {
				return count
			}
		}
	}
	return 0
}

// dice is a row of numbers that look random and are the same each time.
type dice uint64

// upTo returns a number from 0 to one that is given.
func (d *dice) upTo(most int) int {
	*d = *d*6364136223846793005 + 1442695040888963407
	return int(uint64(*d) >> 33 % uint64(most+1))
}

// shuffled returns a list with the same numbers in some order.
func (d *dice) shuffled(list []int) []int {
	list = slices.Clone(list)
	for i := range list {
		j := i + d.upTo(len(list)-1-i)
		list[i], list[j] = list[j], list[i]
	}
	return list
}

// board returns a board with so many names; its spots go by one order, but for one of so many.
func (d *dice) board(names, wrong int) api.StripBoard {
	b := api.StripBoard{Names: names}
	var order []int
	for name := range names {
		order = append(order, name)
	}
	order = d.shuffled(order)
	for range max(d.upTo(api.StripSpots), d.upTo(api.StripSpots)) {
		// a spot has few names often, so that more is left open
		layers := 1 + d.upTo(min(names, 2+d.upTo(api.StripLayers-2))-1)
		spot := d.shuffled(order)[:layers]
		if d.upTo(wrong) > 0 {
			slices.SortFunc(spot, func(a, b int) int { return slices.Index(order, a) - slices.Index(order, b) })
		}
		b.Spots = append(b.Spots, spot)
	}
	return b
}

// any returns a board of any size.
func (d *dice) any() api.StripBoard {
	return d.board(1+d.upTo(api.StripNames-1), d.upTo(3)*d.upTo(4))
}

// someBoards returns all boards with up to three names and up to two spots, and so many others of any size.
func someBoards(seed dice, count int) []api.StripBoard {
	var all []api.StripBoard
	for names := 1; names <= 3; names++ {
		spots := allSpots(names)
		all = append(all, board(names))
		for _, one := range spots {
			all = append(all, board(names, one))
			for _, other := range spots {
				all = append(all, board(names, one, other))
			}
		}
	}
	for range count {
		all = append(all, seed.any())
	}
	return all
}

// clone returns a board that shares no memory with another one.
func clone(b api.StripBoard) api.StripBoard {
	b.Spots = slices.Clone(b.Spots)
	for i, spot := range b.Spots {
		b.Spots[i] = slices.Clone(spot)
	}
	return b
}

// with returns a board with a change.
func with(b api.StripBoard, change func(*api.StripBoard)) api.StripBoard {
	b = clone(b)
	change(&b)
	return b
}

// withSpot returns a board with one spot more.
func withSpot(b api.StripBoard, spot ...int) api.StripBoard {
	return with(b, func(b *api.StripBoard) { b.Spots = append(b.Spots, spot) })
}

func sameBoard(a, b api.StripBoard) bool {
	return a.Names == b.Names && slices.EqualFunc(a.Spots, b.Spots, func(x, y []int) bool { return slices.Equal(x, y) })
}
