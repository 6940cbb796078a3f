package price_test

import (
	"math"
	"slices"
	"testing"

	"mahlstick/api"
	"mahlstick/price"
)

// isNoLess reports whether each of some numbers is no less than another one.
func isNoLess(numbers []int, other int) bool {
	for _, n := range numbers {
		if n < other {
			return false
		}
	}
	return true
}

// isNoMore reports whether each of some numbers is no more than another one.
func isNoMore(numbers []int, other int) bool {
	for _, n := range numbers {
		if n > other {
			return false
		}
	}
	return true
}

// P8.2: no rule is less than down, and none more than up; the rule of the tariff is one of them. What is paid for boards each by itself is the sum of their prices.
func TestRulesInOrder(t *testing.T) {
	roll := dice(5)
	differ := 0
	for range 3000 {
		s := roll.any()
		tariff := roll.upTo(len(s.Tariffs) - 1)
		hours := roll.hours(s)
		paid, _ := price.Total(s, tariff, hours)
		rules, e := price.Rules(s, tariff, hours)
		if e != api.OK || len(rules) != 4 || rules[s.Tariffs[tariff].Rule-api.PriceDown] != paid || !isNoLess(rules, rules[0]) || !isNoMore(rules, rules[1]) {
			t.Fatal(s, tariff, hours, paid, rules, e)
		}
		if rules[0] < rules[1] {
			differ++
		}
		parts, e := price.Parts(s, tariff, hours)
		if e != api.OK || len(parts) != len(s.Boards) || s.Tariffs[tariff].Each && total(parts) != paid {
			t.Fatal(s, tariff, hours, paid, parts, e)
		}
	}
	if differ < 1000 {
		t.Error(differ)
	}
}

// P8.5: all coins are paid, each once, and nobody pays a whole coin more than the part, or less; who owes does not pay more than the share.
func TestAllCoinsArePaid(t *testing.T) {
	roll := dice(6)
	left := 0
	for range 3000 {
		s := roll.any()
		tariff := roll.upTo(len(s.Tariffs) - 1)
		hours := roll.hours(s)
		paid, _ := price.Total(s, tariff, hours)
		shares, e := price.Share(s, tariff, hours)
		if e != api.OK || len(shares) != len(s.Offs) || total(shares) != paid {
			t.Fatal(s, tariff, hours, shares, paid, e)
		}
		parts, _ := modelParts(s, s.Tariffs[tariff], hours)
		for owner, share := range shares {
			if off := distance(share*total(parts), paid*parts[owner]); off > 0 {
				left++
				if off >= total(parts) {
					t.Fatal(s, tariff, hours, shares, paid, parts)
				}
			}
		}
		owes, e := price.Owes(s, tariff, hours)
		for owner, n := range owes {
			// of 100 percent nothing is left, and of none everything; a coin is not taken off before it is a whole one
			if off := 100 * (shares[owner] - n); off > shares[owner]*s.Offs[owner] || off+100 <= shares[owner]*s.Offs[owner] {
				t.Fatal(s, tariff, hours, shares, owes, e)
			}
		}
	}
	if left < 1000 {
		t.Error(left)
	}
}

// more returns a sheet and hours with more of something, or, of Units, with less.
func (d *dice) more(s api.PriceSheet, tariff int, hours []int) (api.PriceSheet, []int) {
	s, hours = clone(s), slices.Clone(hours)
	b := &s.Boards[d.upTo(len(s.Boards)-1)]
	its := &s.Tariffs[tariff]
	switch d.upTo(4) {
	case 0:
		b.Letters = min(api.PriceLetters, b.Letters+1+d.upTo(2))
	case 1:
		b.Feet = min(api.PriceFeet, b.Feet+1+d.upTo(2))
	case 2:
		for number := range hours {
			hours[number] += d.upTo(s.Boards[number].Hours.High - hours[number])
		}
	case 3:
		its.Coins = min(api.PriceCoins, its.Coins+1+d.upTo(2))
	default:
		its.Units = max(1, its.Units-1-d.upTo(2))
	}
	return s, hours
}

// P8.8: more letters, feet, hours and Coins, and less Units, never make less be paid.
func TestMoreIsNeverLess(t *testing.T) {
	roll := dice(7)
	greater := 0
	for range 5000 {
		s := roll.any()
		tariff := roll.upTo(len(s.Tariffs) - 1)
		hours := roll.hours(s)
		before, _ := price.Total(s, tariff, hours)
		spanBefore, _ := price.Paid(s, tariff)
		other, others := roll.more(s, tariff, hours)
		after, e := price.Total(other, tariff, others)
		if e != api.OK || after < before {
			t.Fatal(s, tariff, hours, other, others, before, after, e)
		}
		spanAfter, e := price.Paid(other, tariff)
		if e != api.OK || spanAfter.Low < spanBefore.Low || spanAfter.High < spanBefore.High {
			t.Fatal(s, tariff, other, spanBefore, spanAfter, e)
		}
		if after > before {
			greater++
		}
	}
	if greater < 500 {
		t.Error(greater)
	}
}

// P8.8: boards in another order make nothing else be paid, and no owner pay anything else.
func TestBoardsInAnotherOrder(t *testing.T) {
	roll := dice(8)
	for range 1500 {
		s := roll.close()
		hours := roll.hours(s)
		turned, others := clone(s), slices.Clone(hours)
		slices.Reverse(turned.Boards)
		slices.Reverse(others)
		if roll.upTo(1) == 0 {
			last := len(others) - 1
			turned.Boards, others = append(turned.Boards[last:], turned.Boards[:last]...), append(others[last:], others[:last]...)
		}
		for tariff := range s.Tariffs {
			one, _ := price.Paid(s, tariff)
			if y, e := price.Paid(turned, tariff); e != api.OK || y != one {
				t.Fatal(s, tariff, y, e)
			}
			paid, _ := price.Total(s, tariff, hours)
			if n, e := price.Total(turned, tariff, others); e != api.OK || n != paid {
				t.Fatal(s, tariff, hours, n, e)
			}
			for i, of := range lists()[1:] {
				list, _ := of(s, tariff, hours)
				if y, e := of(turned, tariff, others); e != api.OK || !slices.Equal(y, list) {
					t.Fatal(i, s, tariff, hours, y, e)
				}
			}
		}
		word, _ := price.Same(s, 0, 1)
		if w, e := price.Same(turned, 0, 1); e != api.OK || w != word {
			t.Fatal(s, w, e)
		}
		coins, e := price.Change(s, 0, 1, hours)
		if n, f := price.Change(turned, 0, 1, others); e != f || n != coins {
			t.Fatal(s, hours, n, f)
		}
		tariff, least, _ := price.Cheapest(s, hours)
		if y, n, e := price.Cheapest(turned, others); e != api.OK || y != tariff || n != least {
			t.Fatal(s, hours, y, n, e)
		}
	}
}

// P0.8: by two tariffs as much is paid with the hours that somebody proposes, if it is said so, and not with others, if it is said that it never is; with the Coins that are returned it is.
func TestSameToTheLastCoin(t *testing.T) {
	roll := dice(9)
	seen, changed := map[api.PriceWord]int{}, 0
	for range 1500 {
		s := roll.close()
		word, _ := price.Same(s, 0, 1)
		reverse, _ := price.Same(s, 1, 0)
		when, e := price.When(s, 0, 1)
		if word != reverse || (e == api.OK) == (word == never) {
			t.Fatal(s, word, reverse, when, e)
		}
		if e == api.OK {
			one, _ := price.Total(s, 0, when)
			other, f := price.Total(s, 1, when)
			if f != api.OK || one != other {
				t.Fatal(s, when, one, other, f)
			}
		}
		seen[word]++
		hours := roll.hours(s)
		one, _ := price.Total(s, 0, hours)
		other, _ := price.Total(s, 1, hours)
		if word == surely && one != other || word == never && one == other {
			t.Fatal(s, word, hours, one, other)
		}
		coins, e := price.Change(s, 0, 1, hours)
		if one == other && (e != api.OK || coins != s.Tariffs[0].Coins) {
			t.Fatal(s, hours, coins, e)
		}
		if e == api.OK {
			changed++
			x := with(s, func(s *api.PriceSheet) { s.Tariffs[0].Coins = coins })
			if n, e := price.Total(x, 0, hours); e != api.OK || n != other {
				t.Fatal(s, hours, coins, n, other, e)
			}
		}
	}
	if seen[never] < 50 || seen[may] < 20 || seen[surely] < 50 || changed < 300 {
		t.Error(seen, changed)
	}
}

// callAll calls everything with some arguments; it is there to see that nothing panics, hangs, or changes them.
func callAll(s api.PriceSheet, one, other int, hours []int, text string) {
	price.Check(s)
	price.Paid(s, one)
	price.Total(s, one, hours)
	for _, of := range lists() {
		of(s, one, hours)
	}
	price.Same(s, one, other)
	price.When(s, one, other)
	price.Where(s, one, other, hours)
	price.Change(s, one, other, hours)
	price.Cheapest(s, hours)
	price.Print(s)
	price.Read(text)
}

// wild returns numbers of which many are far out of range.
func (d *dice) wild() int {
	far := []int{math.MinInt, math.MaxInt, -1, 0, 1, 2, 3, 4, 5, 6, 7, 12, 13, 40, 41, 60, 61, 100, 101, 500, 501, 1 << 40}
	return far[d.upTo(len(far)-1)]
}

// wildList returns a list of such numbers.
func (d *dice) wildList() []int {
	var list []int
	for range d.upTo(5) {
		list = append(list, d.wild())
	}
	return list
}

// spoil changes some of a sheet into anything.
func (d *dice) spoil(s *api.PriceSheet) {
	for range 1 + d.upTo(2) {
		switch d.upTo(6) {
		case 0:
			s.Offs = d.wildList()
		case 1:
			s.Boards = append(s.Boards, api.PriceBoard{Letters: d.wild(), Feet: d.wild(), Hours: span(d.wild(), d.wild()), Owner: d.wild()})
		case 2:
			s.Boards = s.Boards[:d.upTo(len(s.Boards))]
		case 3:
			s.Tariffs = append(s.Tariffs, api.PriceTariff{Kind: api.PriceKind(d.wild()), Coins: d.wild(), Units: d.wild(), Rule: api.PriceRule(d.wild())})
		case 4:
			s.Tariffs = s.Tariffs[:d.upTo(len(s.Tariffs))]
		case 5:
			d.spoilNumber(s)
		case 6:
			*s = api.PriceSheet{}
		}
	}
}

// spoilNumber changes a number of a sheet into any.
func (d *dice) spoilNumber(s *api.PriceSheet) {
	if len(s.Boards) == 0 || len(s.Tariffs) == 0 {
		return
	}
	b, its := &s.Boards[d.upTo(len(s.Boards)-1)], &s.Tariffs[d.upTo(len(s.Tariffs)-1)]
	switch d.upTo(7) {
	case 0:
		b.Letters = d.wild()
	case 1:
		b.Feet = d.wild()
	case 2:
		b.Hours = span(d.wild(), d.wild())
	case 3:
		b.Owner = d.wild()
	case 4:
		its.Kind = api.PriceKind(d.wild())
	case 5:
		its.Coins = d.wild()
	case 6:
		its.Units = d.wild()
	default:
		its.Rule = api.PriceRule(d.wild())
	}
}

// P0.12: no function panics, whatever its arguments.
func TestAnyArguments(t *testing.T) {
	roll := dice(10)
	callAll(api.PriceSheet{}, 0, 0, nil, "")
	callAll(largest(), 0, 1, l(40, 40, 40, 40), "end")
	callAll(widest(), math.MinInt, math.MaxInt, l(math.MaxInt, math.MaxInt, math.MinInt, 2), "end 000\n")
	for range 3000 {
		s := roll.any()
		text, _ := price.Print(s)
		at := roll.upTo(len(text) - 1)
		one, other, hours := roll.upTo(len(s.Tariffs)-1), roll.upTo(len(s.Tariffs)-1), roll.hours(s)
		if roll.upTo(1) == 0 {
			roll.spoil(&s)
		}
		if roll.upTo(2) == 0 {
			one = roll.wild()
		}
		if roll.upTo(2) == 0 {
			other = roll.wild()
		}
		if roll.upTo(2) == 0 {
			hours = roll.wildList()
		}
		callAll(s, one, other, hours, text[:at]+string(rune(roll.upTo(300)))+text[at:])
	}
}

// R3: nil and empty lists are the same: there is no sheet without owners, boards or tariffs, and no board without hours.
func TestEmptyLists(t *testing.T) {
	for _, hours := range [][]int{nil, {}} {
		refuse(t, one(), 0, hours)
		refuseHours(t, one(), hours)
		for _, s := range []api.PriceSheet{with(one(), func(s *api.PriceSheet) { s.Boards = nil }), with(one(), func(s *api.PriceSheet) { s.Boards = []api.PriceBoard{} })} {
			refuse(t, s, 0, hours)
			refuseHours(t, s, hours)
		}
	}
}

// R4: no argument is changed, nor what follows it in its memory.
func TestArgumentsStay(t *testing.T) {
	roll := dice(11)
	for range 200 {
		s := roll.sheet(2+roll.upTo(1), 40, 500)
		hours := append(roll.hours(s), 77, 78)
		s.Offs = append(s.Offs, 71, 72)
		s.Boards = append(s.Boards, board(73, 74, 75, 76, 77), board(78, 79, 80, 81, 82))
		s.Tariffs = append(s.Tariffs, all(83, 84, 85, 86), each(87, 88, 89, 90))
		before, hours2 := clone(s), slices.Clone(hours)
		part := s
		part.Offs, part.Boards, part.Tariffs = s.Offs[:len(s.Offs)-2], s.Boards[:len(s.Boards)-2], s.Tariffs[:len(s.Tariffs)-2]
		if e := price.Check(part); e != api.OK {
			t.Fatal(part, e)
		}
		for one := range part.Tariffs {
			callAll(part, one, (one+1)%len(part.Tariffs), hours[:len(part.Boards)], "")
		}
		if !sameSheet(s, before) || !slices.Equal(hours, hours2) {
			t.Fatal(s, before, hours, hours2)
		}
	}
}

// R4 and R8: results share no memory with arguments or with each other, and are the same each time.
func TestResultsStay(t *testing.T) {
	s, hours := p(), l(3, 2)
	wants := [][]int{l(12, 7), l(20, 20, 20, 20), l(13, 7), l(1, 0), l(13, 6)}
	for i := range 3 {
		for j, of := range lists() {
			y, e := of(s, 1, hours)
			if e != api.OK || !slices.Equal(y, wants[j]) {
				t.Fatal(i, j, y, e)
			}
			y[0] = 99
		}
		when, e := price.When(s, 0, 2)
		if e != api.OK || !slices.Equal(when, l(3, 2)) {
			t.Fatal(i, when, e)
		}
		again, e := price.Read(oneText)
		if e != api.OK || !sameSheet(again, one()) {
			t.Fatal(i, again, e)
		}
		when[0], again.Offs[0], again.Boards[0], again.Tariffs[0] = 99, 99, api.PriceBoard{}, api.PriceTariff{}
	}
	if !sameSheet(s, p()) || !slices.Equal(hours, l(3, 2)) {
		t.Error(s, hours)
	}
}
