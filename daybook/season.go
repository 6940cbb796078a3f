package daybook

import (
	"slices"

	"mahlstick/api"
	"mahlstick/coat"
	"mahlstick/price"
)

// none is in place of a hand, of hours or of a tariff if there are none.
const none = -1

// A season is what stands at a desk: the suite, as it is after all entries that stand, and what they did beside it.
type season struct {
	api.DaybookSuite
	stands []int
	day    int
	plan   []int
	laid   int
	// left has the strokes that are not done yet.
	left   map[int]bool
	hands  []int
	hours  []int
	tariff int
	paid   []int
}

// begun returns what stands at a desk at the beginning.
func begun(s api.DaybookSuite) *season {
	// there is a plan, as the suite is as defined
	plan, _ := coat.First(s.Coats)
	x := &season{
		DaybookSuite: s,
		plan:         plan,
		left:         map[int]bool{},
		hands:        slices.Repeat([]int{none}, len(s.Bench.Strokes)),
		hours:        slices.Repeat([]int{none}, len(s.Bench.Boards)),
		tariff:       none,
		paid:         make([]int, len(s.Prices.Offs)),
	}
	for stroke := range len(s.Bench.Strokes) {
		x.left[stroke] = true
	}
	return x
}

// does changes what stands as an entry says that goes. The lists of the suite stay as they are: they are those of the desk, which begins with them each time.
func (x *season) does(e entry) {
	switch e := e.(type) {
	case waitEntry:
		x.day += e.days
	case coatEntry:
		x.laid++
	case dryEntry:
		x.Coats, x.plan, _ = x.foreseen(e.day, e.dry)
	case spotEntry:
		x.Board = x.withSpot(e.names)
	case mixEntry:
		x.Stock = slices.Clone(x.Stock)
		for tin, parts := range e.parts {
			x.Stock[tin] -= parts
		}
	case fillEntry:
		x.Stock = slices.Clone(x.Stock)
		x.Stock[e.tin] += e.parts
	case giveEntry:
		x.hands[e.stroke] = e.hand
	case doneEntry:
		delete(x.left, e.stroke)
	case hoursEntry:
		x.hours[e.board] = e.hours
	case dealEntry:
		x.tariff = e.tariff
	case payEntry:
		x.paid[e.owner] += e.coins
	case frontEntry:
		x.Front = x.withFront(e.wide)
	}
}

// nextCoat returns the day that the first coat has in the plan that is not laid yet, or false if all are laid.
func (x *season) nextCoat() (int, bool) {
	if x.laid == len(x.plan) {
		return 0, false
	}
	return x.plan[x.laid], true
}

// firstOpenDay returns the day, or the one after it if a coat was laid on the day; there need not be such a day.
func (x *season) firstOpenDay() int {
	if x.laid > 0 && x.plan[x.laid-1] == x.day {
		return x.day + 1
	}
	return x.day
}

// foreseen returns the coats with another span of a day, and the plan as it is mended then, or false if there is none.
func (x *season) foreseen(day int, dry api.Span) (api.CoatSheet, []int, bool) {
	coats := x.Coats
	coats.Dry = slices.Clone(coats.Dry)
	coats.Dry[day] = dry
	plan, _, e := coat.Mend(coats, x.plan, x.firstOpenDay())
	return coats, plan, e == api.OK
}

// withSpot returns the board with a further spot.
func (x *season) withSpot(names []int) api.StripBoard {
	board := x.Board
	board.Spots = append(slices.Clone(board.Spots), names)
	return board
}

// withFront returns the front with another width.
func (x *season) withFront(wide int) api.LetterSheet {
	front := x.Front
	front.Wide = wide
	return front
}

// numbersWhere returns the numbers of those things of a list of which something is so, in increasing order.
func numbersWhere[T any](list []T, is func(number int, thing T) bool) []int {
	var all []int
	for number, thing := range list {
		if is(number, thing) {
			all = append(all, number)
		}
	}
	return all
}

// canBeDone reports whether a stroke has a hand, is not done, and all that must be done before it are.
func (x *season) canBeDone(stroke int) bool {
	hand, needs := x.hands[stroke], x.Bench.Strokes[stroke].Needs
	if hand == none || !x.left[stroke] {
		return false
	}
	before := numbersWhere(x.hands[:stroke], func(other, its int) bool {
		return x.left[other] && (its == hand || slices.Contains(needs, other))
	})
	return len(before) == 0
}

// isPainted reports whether all strokes of a board are done.
func (x *season) isPainted(board int) bool {
	rest := numbersWhere(x.Bench.Strokes, func(stroke int, its api.BenchStroke) bool {
		return its.Board == board && x.left[stroke]
	})
	return len(rest) == 0
}

// owed returns what each owner owes, or false if no tariff is agreed, or of some board no hours are noted.
func (x *season) owed() ([]int, bool) {
	if x.tariff == none || slices.Contains(x.hours, none) {
		return nil, false
	}
	coins, e := price.Owes(x.Prices, x.tariff, x.hours)
	return coins, e == api.OK
}
