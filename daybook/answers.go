package daybook

import (
	"slices"

	"mahlstick/api"
	"mahlstick/bench"
	"mahlstick/letter"
	"mahlstick/price"
	"mahlstick/strip"
	"mahlstick/tint"
)

// answer returns the answer of a question that has a row.
func (x *season) answer(q api.DaybookQuestion) ([]int, api.Errno) {
	answers := [...]func(x *season, numbers []int) ([]int, api.Errno){
		api.DaybookDay:    (*season).answerDay,
		api.DaybookSet:    (*season).answerSet,
		api.DaybookPlan:   (*season).answerPlan,
		api.DaybookLaid:   (*season).answerLaid,
		api.DaybookOrder:  (*season).answerOrder,
		api.DaybookBefore: (*season).answerBefore,
		api.DaybookLeft:   (*season).answerLeft,
		api.DaybookWord:   (*season).answerWord,
		api.DaybookHand:   (*season).answerHand,
		api.DaybookReady:  (*season).answerReady,
		api.DaybookEnds:   (*season).answerEnds,
		api.DaybookBest:   (*season).answerBest,
		api.DaybookOwes:   (*season).answerOwes,
		api.DaybookPaid:   (*season).answerPaid,
		api.DaybookSame:   (*season).answerSame,
		api.DaybookStands: (*season).answerStands,
	}
	return answers[q.Kind](x, q.Numbers)
}

// one returns the answer that is a single number, or no answer with an error.
func one[N ~int](number N, e api.Errno) ([]int, api.Errno) {
	if e != api.OK {
		return nil, e
	}
	return []int{int(number)}, api.OK
}

// ofNumber returns the answer that a list has for a number, or ErrArg if it has none.
func ofNumber(list []int, number int) ([]int, api.Errno) {
	if !has(list, number) {
		return nil, api.ErrArg
	}
	return one(list[number], api.OK)
}

func (x *season) answerDay([]int) ([]int, api.Errno) { return one(x.day, api.OK) }

func (x *season) answerSet([]int) ([]int, api.Errno) {
	setting, stretch, e := letter.Set(x.Front)
	if e != api.OK {
		return nil, e
	}
	return []int{len(setting.Ends), stretch}, api.OK
}

func (x *season) answerPlan([]int) ([]int, api.Errno) { return x.plan, api.OK }

func (x *season) answerLaid([]int) ([]int, api.Errno) { return one(x.laid, api.OK) }

func (x *season) answerOrder([]int) ([]int, api.Errno) { return strip.First(x.Board) }

func (x *season) answerBefore(names []int) ([]int, api.Errno) {
	return one(strip.Before(x.Board, names[0], names[1]))
}

func (x *season) answerLeft(tin []int) ([]int, api.Errno) { return ofNumber(x.Stock, tin[0]) }

func (x *season) answerWord(parts []int) ([]int, api.Errno) { return one(tint.Word(x.Tints, parts)) }

func (x *season) answerHand(stroke []int) ([]int, api.Errno) {
	hand, e := ofNumber(x.hands, stroke[0])
	if slices.Contains(hand, none) {
		return nil, api.OK
	}
	return hand, e
}

func (x *season) answerReady([]int) ([]int, api.Errno) {
	ready := numbersWhere(x.Bench.Strokes, func(stroke int, _ api.BenchStroke) bool { return x.canBeDone(stroke) })
	return ready, api.OK
}

func (x *season) answerEnds([]int) ([]int, api.Errno) {
	if slices.Contains(x.hands, none) {
		return nil, api.ErrRule
	}
	var both []int
	ends, e := bench.Ends(x.Bench, x.hands)
	for _, its := range ends {
		both = append(both, its.Low, its.High)
	}
	return both, e
}

func (x *season) answerBest([]int) ([]int, api.Errno) {
	plan, _, e := bench.Best(x.Bench)
	return plan, e
}

func (x *season) answerOwes(owner []int) ([]int, api.Errno) {
	if !has(x.paid, owner[0]) {
		return nil, api.ErrArg
	}
	owed, known := x.owed()
	if !known {
		return nil, api.ErrRule
	}
	return ofNumber(owed, owner[0])
}

func (x *season) answerPaid(owner []int) ([]int, api.Errno) { return ofNumber(x.paid, owner[0]) }

func (x *season) answerSame(tariffs []int) ([]int, api.Errno) {
	return one(price.Same(x.Prices, tariffs[0], tariffs[1]))
}

func (x *season) answerStands([]int) ([]int, api.Errno) { return x.stands, api.OK }
