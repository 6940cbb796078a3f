package bench_test

import (
	"slices"

	"mahlstick/api"
)

// This file has the chapter's definitions once more, as slow and as plain as can be, and benches on which both are compared.

// lists returns all lists of so many numbers from 0 to one less than a limit, in lexicographic order.
func lists(length, limit int) [][]int {
	all := [][]int{nil}
	for range length {
		var longer [][]int
		for _, list := range all {
			for n := range limit {
				longer = append(longer, append(slices.Clone(list), n))
			}
		}
		all = longer
	}
	return all
}

// differing returns all lists of numbers below one, none twice, in lexicographic order.
func differing(limit int) [][]int {
	var all [][]int
	last := [][]int{nil}
	for range limit {
		var longer [][]int
		for _, list := range last {
			for n := range limit {
				if !slices.Contains(list, n) {
					longer = append(longer, append(slices.Clone(list), n))
				}
			}
		}
		all, last = append(all, longer...), longer
	}
	slices.SortFunc(all, slices.Compare)
	return all
}

// worked goes through a day hour by hour, and returns when each stroke begins and ends, if it takes some hours.
func worked(b api.BenchBook, plan, hours []int) (begins, ends []int) {
	begins, ends = slices.Repeat(l(-1), len(plan)), slices.Repeat(l(-1), len(plan))
	ended := func(stroke, hour int) bool { return begins[stroke] >= 0 && ends[stroke] <= hour }
	for hour := 0; slices.Contains(begins, -1); hour++ {
		for hand := range b.Apprentices + 1 {
			next := -1
			for stroke := range plan {
				if plan[stroke] == hand && !ended(stroke, hour) {
					next = stroke
					break
				}
			}
			if next < 0 || begins[next] >= 0 || slices.ContainsFunc(b.Strokes[next].Needs, func(need int) bool { return !ended(need, hour) }) {
				continue
			}
			begins[next], ends[next] = hour, hour+hours[next]
		}
	}
	return begins, ends
}

// leastHours and greatestHours return how long strokes take.
func leastHours(b api.BenchBook) []int {
	var hours []int
	for _, stroke := range b.Strokes {
		hours = append(hours, stroke.Hours.Low)
	}
	return hours
}

func greatestHours(b api.BenchBook) []int {
	var hours []int
	for _, stroke := range b.Strokes {
		hours = append(hours, stroke.Hours.High)
	}
	return hours
}

// modelEnds returns when strokes end.
func modelEnds(b api.BenchBook, plan []int) []api.Span {
	_, soon := worked(b, plan, leastHours(b))
	_, late := worked(b, plan, greatestHours(b))
	var ends []api.Span
	for stroke := range plan {
		ends = append(ends, span(soon[stroke], late[stroke]))
	}
	return ends
}

// modelDone returns when a board is done.
func modelDone(b api.BenchBook, plan []int, board int) api.Span {
	var done api.Span
	for stroke, end := range modelEnds(b, plan) {
		if b.Strokes[stroke].Board == board {
			done = span(max(done.Low, end.Low), max(done.High, end.High))
		}
	}
	return done
}

// modelLate returns whether boards are late.
func modelLate(b api.BenchBook, plan []int) []api.BenchWord {
	var words []api.BenchWord
	for board, due := range b.Boards {
		word := never
		if modelDone(b, plan, board).High > due {
			word = may
		}
		if modelDone(b, plan, board).Low > due {
			word = surely
		}
		words = append(words, word)
	}
	return words
}

// modelWaits returns how many hours hands wait before strokes.
func modelWaits(b api.BenchBook, plan []int) []int {
	begins, ends := worked(b, plan, greatestHours(b))
	var waits []int
	for stroke, hand := range plan {
		free := 0
		for before := range stroke {
			if plan[before] == hand {
				free = ends[before]
			}
		}
		waits = append(waits, begins[stroke]-free)
	}
	return waits
}

// modelTakes returns how long a plan takes.
func modelTakes(b api.BenchBook, plan []int) int {
	_, ends := worked(b, plan, greatestHours(b))
	return slices.Max(ends)
}

// isChain reports whether a list is a chain of a plan.
func isChain(b api.BenchBook, plan, list []int) bool {
	begins, ends := worked(b, plan, greatestHours(b))
	for i, stroke := range list {
		if i == 0 && begins[stroke] != 0 {
			return false
		}
		if i > 0 && (begins[stroke] != ends[list[i-1]] || !slices.Contains(b.Strokes[stroke].Needs, list[i-1]) && plan[stroke] != plan[list[i-1]]) {
			return false
		}
	}
	return ends[list[len(list)-1]] == slices.Max(ends)
}

// modelChain returns the first chain of a plan.
func modelChain(b api.BenchBook, plan []int) []int {
	for _, list := range differing(len(plan)) {
		if isChain(b, plan, list) {
			return list
		}
	}
	return nil
}

// modelSpare returns by how many hours a stroke can take longer.
func modelSpare(b api.BenchBook, plan []int, stroke int) int {
	spare := 0
	for more := range api.BenchSpare + 1 {
		hours := greatestHours(b)
		hours[stroke] += more
		if _, ends := worked(b, plan, hours); slices.Max(ends) == modelTakes(b, plan) {
			spare = more
		}
	}
	return spare
}

// areHands reports whether round strokes have the hand 0 in a list.
func areHands(b api.BenchBook, list []int) bool {
	for stroke, hand := range list {
		if b.Strokes[stroke].Round && hand != 0 {
			return false
		}
	}
	return true
}

// modelPlans returns all plans of a bench, in lexicographic order.
func modelPlans(b api.BenchBook) [][]int {
	return slices.DeleteFunc(lists(len(b.Strokes), b.Apprentices+1), func(list []int) bool { return !areHands(b, list) })
}

// modelBest returns all best plans of a bench, in lexicographic order, and how long they take.
func modelBest(b api.BenchBook) ([][]int, int) {
	var all [][]int
	hours := 0
	for _, plan := range modelPlans(b) {
		takes := modelTakes(b, plan)
		if all == nil || takes < hours {
			all, hours = nil, takes
		}
		if takes == hours {
			all = append(all, plan)
		}
	}
	return all, hours
}

// modelGive returns the hand to which a stroke must be given, and how long the plan takes then.
func modelGive(b api.BenchBook, plan []int, stroke int) (int, int) {
	best, hours := -1, 0
	for hand := range b.Apprentices + 1 {
		other := slices.Clone(plan)
		other[stroke] = hand
		if takes := modelTakes(b, other); areHands(b, other) && (best < 0 || takes < hours) {
			best, hours = hand, takes
		}
	}
	return best, hours
}

// dice is a row of numbers that look random and are the same each time.
type dice uint64

// upTo returns a number from 0 to one that is given.
func (d *dice) upTo(most int) int {
	*d = *d*6364136223846793005 + 1442695040888963407
	return int(uint64(*d) >> 33 % uint64(most+1))
}

// span returns a span from 1 to a number.
func (d *dice) span(most int) api.Span {
	low := 1 + d.upTo(most-1)
	return span(low, low+d.upTo(most-low))
}

// bench returns a bench with up to so many apprentices, and so many strokes, of which one of so many is round, and needs one before it.
func (d *dice) bench(apprentices, strokes, round, needs int) api.BenchBook {
	b := api.BenchBook{Apprentices: d.upTo(apprentices)}
	for range 1 + d.upTo(api.BenchBoards-1) {
		b.Boards = append(b.Boards, d.upTo(1+d.upTo(24)))
	}
	most := 1 + d.upTo(api.BenchHours-1)
	for number := range strokes {
		stroke := api.BenchStroke{Board: d.upTo(len(b.Boards) - 1), Round: d.upTo(round) == 0, Hours: d.span(most)}
		for before := range number {
			if d.upTo(needs) == 0 {
				stroke.Needs = append(stroke.Needs, before)
			}
		}
		b.Strokes = append(b.Strokes, stroke)
	}
	return b
}

// any returns a bench of any size.
func (d *dice) any() api.BenchBook {
	return d.bench(api.BenchHands, 1+d.upTo(api.BenchStrokes-1), 1+d.upTo(5), d.upTo(6))
}

// small returns one with few plans.
func (d *dice) small() api.BenchBook {
	return d.bench(2, 1+d.upTo(3), 1+d.upTo(5), d.upTo(4))
}

// plan returns a plan of a bench.
func (d *dice) plan(b api.BenchBook) []int {
	var plan []int
	for _, stroke := range b.Strokes {
		hand := d.upTo(b.Apprentices)
		if stroke.Round {
			hand = 0
		}
		plan = append(plan, hand)
	}
	return plan
}

// shuffled returns a list with the same numbers in some order.
func (d *dice) shuffled(list []int) []int {
	list = slices.Clone(list)
	for i := range list {
		j := i + d.upTo(len(list)-1-i)
		list[i], list[j] = list[j], list[i]
	}
	return list
}

// clone returns a bench that shares no memory with another one.
func clone(b api.BenchBook) api.BenchBook {
	b.Boards, b.Strokes = slices.Clone(b.Boards), slices.Clone(b.Strokes)
	for i := range b.Strokes {
		b.Strokes[i].Needs = slices.Clone(b.Strokes[i].Needs)
	}
	return b
}

// with returns a bench with a change.
func with(b api.BenchBook, change func(*api.BenchBook)) api.BenchBook {
	b = clone(b)
	change(&b)
	return b
}

func sameBench(a, b api.BenchBook) bool {
	return a.Apprentices == b.Apprentices && slices.Equal(a.Boards, b.Boards) && slices.EqualFunc(a.Strokes, b.Strokes, func(x, y api.BenchStroke) bool {
		return x.Board == y.Board && x.Round == y.Round && x.Hours == y.Hours && slices.Equal(x.Needs, y.Needs)
	})
}
