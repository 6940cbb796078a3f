package daybook_test

import (
	"slices"

	"mahlstick/api"
	"mahlstick/letter"
)

// dice is a row of numbers that look random and are the same each time.
type dice uint64

// upTo returns a number from 0 to one that is given.
func (d *dice) upTo(most int) int {
	*d = *d*6364136223846793005 + 1442695040888963407
	return int(uint64(*d) >> 33 % uint64(most+1))
}

// span returns a span from one number to another one at most, with so many numbers more than one at most.
func (d *dice) span(low, high, wide int) api.Span {
	from := low + d.upTo(high-low)
	return span(from, min(high, from+d.upTo(wide)))
}

// front returns a name that fits on its front; on one that is not much narrower it does not.
func (d *dice) front() api.LetterSheet {
	front := api.LetterSheet{Other: d.span(0, 9, 3), Gap: d.span(0, 20, 9), Hyphen: 1 + d.upTo(9), Wide: 1, Rows: 1 + d.upTo(2)}
	for range 1 + d.upTo(2) {
		front.Widths = append(front.Widths, 1+d.upTo(19))
	}
	for range 1 + d.upTo(1) {
		word := api.LetterWord{Free: d.upTo(1) == 0}
		for range 1 + d.upTo(4) {
			word.Signs = append(word.Signs, d.upTo(len(front.Widths)-1))
		}
		for cut := 1; cut < len(word.Signs); cut++ {
			if d.upTo(1) == 0 {
				word.Cuts = append(word.Cuts, cut)
			}
		}
		front.Words = append(front.Words, word)
	}
	narrow, _ := letter.Narrow(front)
	front.Wide = narrow + d.upTo(30)
	return front
}

// coats returns coats of which some plan surely holds.
func (d *dice) coats() api.CoatSheet {
	for {
		var s api.CoatSheet
		for day := range 3 + d.upTo(5) {
			s.Dry = append(s.Dry, d.span(2, 9, 3))
			if d.upTo(4) > 0 {
				s.Work = append(s.Work, day)
			}
		}
		for range 1 + d.upTo(2) {
			need := 1 + d.upTo(11)
			s.Coats = append(s.Coats, api.CoatCoat{Need: need, Peel: need + 4 + d.upTo(12)})
		}
		if len(modelPlans(s)) > 0 {
			return s
		}
	}
}

// shuffled returns a list with the same numbers in some order.
func (d *dice) shuffled(list []int) []int {
	list = slices.Clone(list)
	for i := range list {
		j := i + d.upTo(len(list)-1-i)
		list[i], list[j] = list[j], list[i]
	}
	return list
}

// spot returns so many of some names at most, in some order.
func (d *dice) spot(names, most int) []int {
	all := d.shuffled(l(0, 1, 2, 3, 4, 5)[:names])
	return all[:1+d.upTo(min(names, most)-1)]
}

// board returns a board, the spots of which do not contradict each other.
func (d *dice) board() api.StripBoard {
	for {
		b := api.StripBoard{Names: 1 + d.upTo(5)}
		for range d.upTo(4) {
			b.Spots = append(b.Spots, d.spot(b.Names, 3))
		}
		if modelOrders(b) {
			return b
		}
	}
}

// bench returns a bench with so many boards, and strokes of which most need none.
func (d *dice) bench(boards int) api.BenchBook {
	b := api.BenchBook{Apprentices: d.upTo(2)}
	for range boards {
		b.Boards = append(b.Boards, d.upTo(9))
	}
	for number := range 1 + d.upTo(3) {
		stroke := api.BenchStroke{Board: d.upTo(boards - 1), Round: d.upTo(3) == 0, Hours: d.span(1, 6, 3)}
		for before := range number {
			if d.upTo(4) == 0 {
				stroke.Needs = append(stroke.Needs, before)
			}
		}
		b.Strokes = append(b.Strokes, stroke)
	}
	return b
}

// tints returns colours of which some mixtures match, and some do not.
func (d *dice) tints() api.TintSheet {
	s := api.TintSheet{Old: [3]int{d.upTo(60), d.upTo(60), d.upTo(60)}, Years: d.span(0, 9, 2), Off: 8 + d.upTo(12)}
	for pigment := range s.Fade {
		s.Fade[pigment] = d.span(0, 2, 1)
	}
	for range 1 + d.upTo(2) {
		var tin api.TintTin
		for pigment, old := range s.Old {
			tin.Pigments[pigment] = d.span(max(0, old-20), min(99, old+10), 4)
		}
		s.Tins = append(s.Tins, tin)
	}
	return s
}

// prices returns prices of so many boards.
func (d *dice) prices(boards int) api.PriceSheet {
	var s api.PriceSheet
	for range 1 + d.upTo(2) {
		s.Offs = append(s.Offs, d.upTo(2)*d.upTo(40))
	}
	for range boards {
		s.Boards = append(s.Boards, api.PriceBoard{Letters: d.upTo(9), Feet: d.upTo(9), Hours: d.span(0, 9, 3), Owner: d.upTo(len(s.Offs) - 1)})
	}
	for range 1 + d.upTo(2) {
		s.Tariffs = append(s.Tariffs, api.PriceTariff{Kind: api.PriceKind(1 + d.upTo(3)), Coins: d.upTo(12), Units: 1 + d.upTo(3), Rule: api.PriceRule(1 + d.upTo(3)), Each: d.upTo(1) == 0})
	}
	return s
}

// suite returns a suite.
func (d *dice) suite() api.DaybookSuite {
	boards := 1 + d.upTo(2)
	s := api.DaybookSuite{Front: d.front(), Coats: d.coats(), Board: d.board(), Bench: d.bench(boards), Tints: d.tints(), Prices: d.prices(boards)}
	for range s.Tints.Tins {
		s.Stock = append(s.Stock, d.upTo(1)*d.upTo(40))
	}
	return s
}

// near returns a number that is a little less than a limit, or the limit, or a little more.
func (d *dice) near(limit int) int { return max(0, limit-1+d.upTo(2)) }

// entry returns an entry of some kind that is formed, and goes often.
func (d *dice) entry(m model, kind api.DaybookKind) api.DaybookEntry {
	s := m.s
	owner := d.upTo(len(s.Prices.Offs) - d.upTo(d.upTo(1)))
	var n []int
	switch kind {
	case api.DaybookWait:
		n = l(d.upTo(3))
	case api.DaybookDry:
		x := d.span(0, 9, 3)
		n = l(d.upTo(len(s.Coats.Dry)), x.Low, x.High-d.upTo(d.upTo(1)))
		n[2] = max(0, n[2])
	case api.DaybookSpot:
		n = d.spot(6, 3)
		if d.upTo(3) > 0 {
			n = d.spot(s.Board.Names, 3)
		}
	case api.DaybookMix:
		n = make([]int, len(s.Stock)+d.upTo(d.upTo(d.upTo(1))))
		for range d.upTo(6) {
			n[d.upTo(len(n)-1)]++
		}
	case api.DaybookFill:
		tin := d.upTo(len(s.Stock) - d.upTo(1))
		n = l(tin, d.upTo(9))
		if tin < len(s.Stock) && d.upTo(2) == 0 {
			n[1] = d.near(40 - m.stock(tin))
		}
	case api.DaybookGive:
		n = l(d.upTo(len(s.Bench.Strokes)), d.upTo(s.Bench.Apprentices+d.upTo(1)))
	case api.DaybookDone:
		n = l(d.upTo(len(s.Bench.Strokes)))
	case api.DaybookHours:
		board := d.upTo(len(s.Bench.Boards) - d.upTo(1))
		n = l(board, d.upTo(10))
		if board < len(s.Bench.Boards) && d.upTo(3) > 0 {
			its := s.Prices.Boards[board].Hours
			n[1] = its.Low + d.upTo(its.High-its.Low)
		}
	case api.DaybookDeal:
		n = l(d.upTo(len(s.Prices.Tariffs)))
	case api.DaybookPay:
		n = l(owner, d.upTo(12))
		if owes := m.owes(); owner < len(owes) && d.upTo(1) == 0 {
			n[1] = d.near(owes[owner] - m.paid(owner))
		}
	case api.DaybookFront:
		n = l(max(0, m.s.Front.Wide-30+d.upTo(40)))
	}
	return api.DaybookEntry{Kind: kind, Numbers: n}
}

// anyEntry returns an entry of any kind that is formed; half of them go and bring the work on, so that at some desks all of it is done and paid.
func (d *dice) anyEntry(m model) api.DaybookEntry {
	if next := bringsOn(m); len(next) > 0 && d.upTo(1) == 0 {
		return next[d.upTo(len(next)-1)]
	}
	return d.entry(m, api.DaybookKind(1+d.upTo(12)))
}

// bringsOn returns entries that go, and bring the work on.
func bringsOn(m model) []api.DaybookEntry {
	all := []api.DaybookEntry{entry("deal", 0), entry("deal", len(m.s.Prices.Tariffs)-1), entry("pay", 0, 1), entry("pay", len(m.s.Prices.Offs)-1, 2)}
	for stroke := range m.s.Bench.Strokes {
		all = append(all, entry("give", stroke, 0), entry("give", stroke, m.s.Bench.Apprentices), entry("done", stroke))
	}
	for board, its := range m.s.Prices.Boards {
		all = append(all, entry("hours", board, its.Hours.Low), entry("hours", board, its.Hours.High))
	}
	return slices.DeleteFunc(all, func(x api.DaybookEntry) bool { return !m.goes(x) })
}

// allQuestions returns questions of all kinds at a desk of a suite: of all things that there are, and of the one after them.
func allQuestions(s api.DaybookSuite) []api.DaybookQuestion {
	var all []api.DaybookQuestion
	for _, word := range []string{"day", "set", "plan", "laid", "order", "ready", "ends", "best", "stands"} {
		all = append(all, question(word))
	}
	of := func(word string, count int) {
		for number := range count + 1 {
			all = append(all, question(word, number))
		}
	}
	ofTwo := func(word string, count int) {
		for one := range count + 1 {
			for other := range count + 1 {
				all = append(all, question(word, one, other))
			}
		}
	}
	of("stock", len(s.Stock))
	of("hand", len(s.Bench.Strokes))
	of("owes", len(s.Prices.Offs))
	of("paid", len(s.Prices.Offs))
	ofTwo("before", s.Board.Names)
	ofTwo("same", len(s.Prices.Tariffs))
	for _, parts := range [][]int{l(1), l(1, 1), l(2, 1), l(1, 1, 0), l(0, 1, 2), l(3, 0, 3), l(1, 0, 0, 1)} {
		all = append(all, question("word", parts...))
	}
	return all
}

// clone returns a suite that shares no memory with another one.
func clone(s api.DaybookSuite) api.DaybookSuite {
	s.Front.Widths, s.Front.Pairs, s.Front.Words = slices.Clone(s.Front.Widths), slices.Clone(s.Front.Pairs), slices.Clone(s.Front.Words)
	for i, word := range s.Front.Words {
		s.Front.Words[i].Signs, s.Front.Words[i].Cuts = slices.Clone(word.Signs), slices.Clone(word.Cuts)
	}
	s.Coats.Dry, s.Coats.Work, s.Coats.Coats = slices.Clone(s.Coats.Dry), slices.Clone(s.Coats.Work), slices.Clone(s.Coats.Coats)
	s.Board.Spots = slices.Clone(s.Board.Spots)
	for i, spot := range s.Board.Spots {
		s.Board.Spots[i] = slices.Clone(spot)
	}
	s.Bench.Boards, s.Bench.Strokes = slices.Clone(s.Bench.Boards), slices.Clone(s.Bench.Strokes)
	for i, stroke := range s.Bench.Strokes {
		s.Bench.Strokes[i].Needs = slices.Clone(stroke.Needs)
	}
	s.Tints.Tins, s.Stock = slices.Clone(s.Tints.Tins), slices.Clone(s.Stock)
	s.Prices.Offs, s.Prices.Boards, s.Prices.Tariffs = slices.Clone(s.Prices.Offs), slices.Clone(s.Prices.Boards), slices.Clone(s.Prices.Tariffs)
	return s
}

// with returns a suite with a change.
func with(s api.DaybookSuite, change func(*api.DaybookSuite)) api.DaybookSuite {
	s = clone(s)
	change(&s)
	return s
}
