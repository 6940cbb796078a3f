package daybook_test

import (
	"slices"

	"mahlstick/api"
	"mahlstick/bench"
	"mahlstick/coat"
	"mahlstick/letter"
	"mahlstick/price"
	"mahlstick/strip"
	"mahlstick/tint"
)

// This file has the chapter's definitions once more, as slow and as plain as can be, and suites on which both are compared.

// modelSuite reports whether a suite is as defined: layers 1, 3 and 5 are asked in how many ways, not in which one.
func modelSuite(s api.DaybookSuite) bool {
	for _, parts := range s.Stock {
		if parts < 0 || parts > 40 {
			return false
		}
	}
	return modelFits(s.Front) && len(modelPlans(s.Coats)) > 0 && modelOrders(s.Board) && bench.Check(s.Bench) == api.OK && tint.Check(s.Tints) == api.OK && price.Check(s.Prices) == api.OK &&
		len(s.Stock) == len(s.Tints.Tins) && len(s.Prices.Boards) == len(s.Bench.Boards)
}

func modelFits(front api.LetterSheet) bool {
	n, e := letter.Count(front)
	return e == api.OK && n > 0
}

func modelOrders(board api.StripBoard) bool {
	n, e := strip.Count(board)
	return e == api.OK && n > 0
}

// modelPlans returns all plans that surely hold, in order.
func modelPlans(s api.CoatSheet) [][]int {
	if coat.Check(s) != api.OK {
		return nil
	}
	var all [][]int
	for picked := range 1 << len(s.Work) {
		var plan []int
		for i, day := range s.Work {
			if picked>>i&1 == 1 {
				plan = append(plan, day)
			}
		}
		if word, e := coat.Word(s, plan); e == api.OK && word == api.CoatSurely {
			all = append(all, plan)
		}
	}
	slices.SortFunc(all, slices.Compare)
	return all
}

// modelMended returns the plan that has the fewest changes of another one from a day on, or nil if there is none.
func modelMended(s api.CoatSheet, plan []int, from int) []int {
	var best []int
	fewest := len(plan) + 1
	for _, other := range modelPlans(s) {
		changes := 0
		for i := range plan {
			if other[i] != plan[i] {
				changes++
				if other[i] < from || plan[i] < from {
					changes = len(plan) + 1
				}
			}
		}
		if changes < fewest {
			best, fewest = other, changes
		}
	}
	return best
}

// A model is a suite and the entries that were made.
type model struct {
	s    api.DaybookSuite
	made []api.DaybookEntry
}

// stands returns the numbers of all entries that stand: each undo looks back for the one that it takes back.
func (m model) stands() []int {
	taken := make([]bool, len(m.made))
	for number, x := range m.made {
		for before := number - 1; x.Kind == api.DaybookUndo; before-- {
			if m.made[before].Kind != api.DaybookUndo && !taken[before] {
				taken[before] = true
				break
			}
		}
	}
	var all []int
	for number, x := range m.made {
		if x.Kind != api.DaybookUndo && !taken[number] {
			all = append(all, number)
		}
	}
	return all
}

// of returns the numbers of all entries of some kind that stand.
func (m model) of(kind api.DaybookKind) [][]int {
	var all [][]int
	for _, number := range m.stands() {
		if m.made[number].Kind == kind {
			all = append(all, m.made[number].Numbers)
		}
	}
	return all
}

func (m model) day() int {
	day := 0
	for _, n := range m.of(api.DaybookWait) {
		day += n[0]
	}
	return day
}

func (m model) laid() int { return len(m.of(api.DaybookCoat)) }

// open returns the first open day, if the plan is known.
func (m model) open(plan []int) int {
	if m.laid() > 0 && plan[m.laid()-1] == m.day() {
		return m.day() + 1
	}
	return m.day()
}

// coats returns the coats and the plan: it asks again of the desk as it was before each of the entries that change them.
func (m model) coats() (api.CoatSheet, []int) {
	plans := modelPlans(m.s.Coats)
	coats, plan := clone(m.s).Coats, plans[0]
	stands := m.stands()
	for i, number := range stands {
		x := m.made[number]
		if x.Kind != api.DaybookDry {
			continue
		}
		before := model{s: m.s}
		for _, number := range stands[:i] {
			before.made = append(before.made, m.made[number])
		}
		coats.Dry[x.Numbers[0]] = span(x.Numbers[1], x.Numbers[2])
		plan = modelMended(coats, plan, before.open(plan))
	}
	return coats, plan
}

func (m model) front() api.LetterSheet {
	front := m.s.Front
	for _, n := range m.of(api.DaybookFront) {
		front.Wide = n[0]
	}
	return front
}

func (m model) board() api.StripBoard {
	board := clone(m.s).Board
	board.Spots = append(board.Spots, m.of(api.DaybookSpot)...)
	return board
}

func (m model) stock(tin int) int {
	parts := m.s.Stock[tin]
	for _, n := range m.of(api.DaybookFill) {
		if n[0] == tin {
			parts += n[1]
		}
	}
	for _, n := range m.of(api.DaybookMix) {
		parts -= n[tin]
	}
	return parts
}

// second returns the second number of an entry of some kind that stands and has a first one, or -1.
func (m model) second(kind api.DaybookKind, first int) int {
	for _, n := range m.of(kind) {
		if n[0] == first {
			return n[1]
		}
	}
	return -1
}

func (m model) hand(stroke int) int { return m.second(api.DaybookGive, stroke) }

func (m model) isDone(stroke int) bool {
	return slices.ContainsFunc(m.of(api.DaybookDone), func(n []int) bool { return n[0] == stroke })
}

func (m model) tariff() int {
	for _, n := range m.of(api.DaybookDeal) {
		return n[0]
	}
	return -1
}

func (m model) paid(owner int) int {
	coins := 0
	for _, n := range m.of(api.DaybookPay) {
		if n[0] == owner {
			coins += n[1]
		}
	}
	return coins
}

// owes returns what owners owe, or nil if it is not known.
func (m model) owes() []int {
	var hours []int
	for board := range m.s.Bench.Boards {
		if m.second(api.DaybookHours, board) < 0 {
			return nil
		}
		hours = append(hours, m.second(api.DaybookHours, board))
	}
	owes, _ := price.Owes(m.s.Prices, m.tariff(), hours)
	return owes
}

// isReady reports whether a stroke can be done now.
func (m model) isReady(stroke int) bool {
	if m.hand(stroke) < 0 || m.isDone(stroke) {
		return false
	}
	for other := range m.s.Bench.Strokes {
		needed := slices.Contains(m.s.Bench.Strokes[stroke].Needs, other)
		if (needed || other < stroke && m.hand(other) == m.hand(stroke)) && !m.isDone(other) {
			return false
		}
	}
	return true
}

// goes reports whether an entry goes; it is formed.
func (m model) goes(x api.DaybookEntry) bool {
	n, s := x.Numbers, m.s
	switch x.Kind {
	case api.DaybookSpot:
		board := m.board()
		board.Spots = append(board.Spots, n)
		return modelOrders(board)
	case api.DaybookMix:
		word, e := tint.Word(s.Tints, n)
		for tin := range n {
			if e != api.OK || n[tin] > m.stock(tin) {
				return false
			}
		}
		return word != api.TintNever
	case api.DaybookFill:
		return n[0] < len(s.Stock) && n[1] > 0 && m.stock(n[0])+n[1] <= 40
	case api.DaybookGive:
		return n[0] < len(s.Bench.Strokes) && m.hand(n[0]) < 0 && n[1] <= s.Bench.Apprentices && !(s.Bench.Strokes[n[0]].Round && n[1] > 0)
	case api.DaybookDone:
		return n[0] < len(s.Bench.Strokes) && m.isReady(n[0])
	case api.DaybookHours:
		if n[0] >= len(s.Bench.Boards) || m.second(api.DaybookHours, n[0]) >= 0 || n[1] < s.Prices.Boards[n[0]].Hours.Low || n[1] > s.Prices.Boards[n[0]].Hours.High {
			return false
		}
		for stroke, its := range s.Bench.Strokes {
			if its.Board == n[0] && !m.isDone(stroke) {
				return false
			}
		}
		return true
	case api.DaybookDeal:
		return n[0] < len(s.Prices.Tariffs) && m.tariff() < 0
	case api.DaybookPay:
		owes := m.owes()
		return n[0] < len(owes) && n[1] > 0 && m.paid(n[0])+n[1] <= owes[n[0]]
	case api.DaybookFront:
		front := m.front()
		front.Wide = n[0]
		return modelFits(front)
	case api.DaybookUndo:
		return len(m.stands()) > 0
	default:
		return m.goesByCoats(x)
	}
}

// goesByCoats reports the same of an entry that goes by the coats.
func (m model) goesByCoats(x api.DaybookEntry) bool {
	coats, plan := m.coats()
	switch n := x.Numbers; x.Kind {
	case api.DaybookWait:
		day := m.day() + n[0]
		for _, its := range plan[m.laid():] {
			if its < day {
				return false
			}
		}
		return n[0] > 0 && day < len(coats.Dry)
	case api.DaybookCoat:
		return m.laid() < len(plan) && plan[m.laid()] == m.day()
	default:
		if n[0] >= len(coats.Dry) || n[0] < m.open(plan) {
			return false
		}
		coats.Dry[n[0]] = span(n[1], n[2])
		return modelMended(coats, plan, m.open(plan)) != nil
	}
}

// enter makes an entry, or returns why it is not made; it is formed.
func (m *model) enter(x api.DaybookEntry) api.Errno {
	if len(m.made) == 24 {
		return api.ErrLong
	}
	if !m.goes(x) {
		return api.ErrRule
	}
	m.made = append(m.made, x)
	return api.OK
}

// ask returns the answer of a question that has as many numbers as its row.
func (m model) ask(q api.DaybookQuestion) ([]int, api.Errno) {
	n, s := q.Numbers, m.s
	switch q.Kind {
	case api.DaybookDay:
		return l(m.day()), api.OK
	case api.DaybookSet:
		setting, stretch, e := letter.Set(m.front())
		return l(len(setting.Ends), stretch), e
	case api.DaybookPlan:
		_, plan := m.coats()
		return plan, api.OK
	case api.DaybookLaid:
		return l(m.laid()), api.OK
	case api.DaybookOrder:
		return strip.First(m.board())
	case api.DaybookBefore:
		word, e := strip.Before(m.board(), n[0], n[1])
		return known(l(int(word)), e)
	case api.DaybookWord:
		word, e := tint.Word(s.Tints, n)
		return known(l(int(word)), e)
	case api.DaybookBest:
		plan, _, e := bench.Best(s.Bench)
		return plan, e
	case api.DaybookSame:
		word, e := price.Same(s.Prices, n[0], n[1])
		return known(l(int(word)), e)
	case api.DaybookStands:
		return m.stands(), api.OK
	default:
		return m.askOfThings(q)
	}
}

// known returns an answer, or nothing with an error.
func known(answer []int, e api.Errno) ([]int, api.Errno) {
	if e != api.OK {
		return nil, e
	}
	return answer, e
}

// askOfThings returns the answer of a question of a tin, of strokes, or of an owner.
func (m model) askOfThings(q api.DaybookQuestion) ([]int, api.Errno) {
	counts := map[api.DaybookTopic]int{api.DaybookLeft: len(m.s.Stock), api.DaybookHand: len(m.s.Bench.Strokes), api.DaybookOwes: len(m.s.Prices.Offs), api.DaybookPaid: len(m.s.Prices.Offs)}
	if count, is := counts[q.Kind]; is && (q.Numbers[0] < 0 || q.Numbers[0] >= count) {
		return nil, api.ErrArg
	}
	var hands, ready []int
	for stroke := range m.s.Bench.Strokes {
		hands = append(hands, m.hand(stroke))
		if m.isReady(stroke) {
			ready = append(ready, stroke)
		}
	}
	switch q.Kind {
	case api.DaybookLeft:
		return l(m.stock(q.Numbers[0])), api.OK
	case api.DaybookHand:
		return slices.DeleteFunc(l(hands[q.Numbers[0]]), func(hand int) bool { return hand < 0 }), api.OK
	case api.DaybookReady:
		return ready, api.OK
	case api.DaybookEnds:
		ends, e := bench.Ends(m.s.Bench, hands)
		var both []int
		for _, x := range ends {
			both = append(both, x.Low, x.High)
		}
		if e != api.OK {
			return nil, api.ErrRule
		}
		return both, api.OK
	case api.DaybookPaid:
		return l(m.paid(q.Numbers[0])), api.OK
	default:
		if owes := m.owes(); len(owes) > 0 {
			return l(owes[q.Numbers[0]]), api.OK
		}
		return nil, api.ErrRule
	}
}
