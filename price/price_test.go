package price_test

import (
	"math"
	"slices"
	"testing"

	"mahlstick/api"
	"mahlstick/price"
)

const (
	never  = api.PriceNever
	may    = api.PriceMay
	surely = api.PriceSurely
)

func l(numbers ...int) []int { return numbers }

func span(low, high int) api.Span { return api.Span{Low: low, High: high} }

// board returns a board whose hours are from low to high.
func board(letters, feet, low, high, owner int) api.PriceBoard {
	return api.PriceBoard{Letters: letters, Feet: feet, Hours: span(low, high), Owner: owner}
}

// each returns a tariff that is Each, and all one that is not.
func each(kind api.PriceKind, coins, units int, rule api.PriceRule) api.PriceTariff {
	return api.PriceTariff{Kind: kind, Coins: coins, Units: units, Rule: rule, Each: true}
}
func all(kind api.PriceKind, coins, units int, rule api.PriceRule) api.PriceTariff {
	return api.PriceTariff{Kind: kind, Coins: coins, Units: units, Rule: rule}
}

// p returns the sheet p of the chapter, and one the one that has a text.
func p() api.PriceSheet {
	return api.PriceSheet{
		Offs:    l(0, 25),
		Boards:  []api.PriceBoard{board(7, 10, 3, 4, 0), board(5, 6, 2, 2, 1)},
		Tariffs: []api.PriceTariff{each(api.PriceLetter, 5, 3, api.PriceNear), all(api.PriceFoot, 5, 4, api.PriceDown), each(api.PriceHour, 4, 1, api.PriceUp)},
	}
}
func one() api.PriceSheet {
	return api.PriceSheet{Offs: l(0), Boards: []api.PriceBoard{board(1, 1, 1, 1, 0)}, Tariffs: []api.PriceTariff{all(api.PriceHour, 1, 1, api.PriceDown)}}
}

// largest returns a sheet that has as much of everything as can be.
func largest() api.PriceSheet {
	return api.PriceSheet{
		Offs: l(100, 100, 100), Boards: slices.Repeat([]api.PriceBoard{board(60, 40, 40, 40, 2)}, 4),
		Tariffs: slices.Repeat([]api.PriceTariff{each(api.PriceFriend, 500, 12, api.PriceEven)}, 3),
	}
}

// widest returns a sheet whose hours are known least.
func widest() api.PriceSheet {
	return api.PriceSheet{
		Offs: l(0, 50, 100), Boards: []api.PriceBoard{board(60, 0, 0, 6, 0), board(0, 40, 34, 40, 1), board(60, 40, 10, 16, 2), board(30, 20, 1, 7, 0)},
		Tariffs: []api.PriceTariff{each(api.PriceHour, 500, 1, api.PriceUp), all(api.PriceHour, 500, 12, api.PriceDown), all(api.PriceFriend, 0, 12, api.PriceEven)},
	}
}

// empty returns a sheet of boards without letters, feet and hours.
func empty() api.PriceSheet {
	return api.PriceSheet{
		Offs: l(10, 20, 30), Boards: []api.PriceBoard{board(0, 0, 0, 0, 2), board(0, 0, 0, 0, 0), board(0, 0, 0, 0, 2)},
		Tariffs: []api.PriceTariff{each(api.PriceLetter, 500, 3, api.PriceUp), all(api.PriceHour, 500, 7, api.PriceUp), each(api.PriceFriend, 5, 2, api.PriceNear)},
	}
}

// counted returns a sheet of boards with some letters, and as many feet and hours, each of an owner of its own, with some tariffs.
func counted(letters []int, tariffs ...api.PriceTariff) api.PriceSheet {
	s := api.PriceSheet{Tariffs: tariffs}
	for owner, n := range letters {
		s.Offs, s.Boards = append(s.Offs, 0), append(s.Boards, board(n, n, n, n, owner))
	}
	return s
}

// badSheets returns sheets that are not as defined, each by one change.
func badSheets() []api.PriceSheet {
	bad := []api.PriceSheet{{}}
	for _, change := range []func(*api.PriceSheet){
		func(s *api.PriceSheet) { s.Offs = nil },
		func(s *api.PriceSheet) { s.Offs = []int{} },
		func(s *api.PriceSheet) { s.Offs = l(0, 25, 50, 75) },
		func(s *api.PriceSheet) { s.Offs = l(0, -1) },
		func(s *api.PriceSheet) { s.Offs = l(101, 0) },
		func(s *api.PriceSheet) { s.Offs = l(0, 0, math.MaxInt) },
		func(s *api.PriceSheet) { s.Offs = l(math.MinInt, 0) },
		// of the board 1 there is no owner
		func(s *api.PriceSheet) { s.Offs = l(0) },
		func(s *api.PriceSheet) { s.Boards = nil },
		func(s *api.PriceSheet) { s.Boards = []api.PriceBoard{} },
		func(s *api.PriceSheet) { s.Boards = slices.Repeat(s.Boards[:1], 5) },
		func(s *api.PriceSheet) { s.Boards = slices.Repeat(s.Boards[:1], 1000) },
		func(s *api.PriceSheet) { s.Tariffs = nil },
		func(s *api.PriceSheet) { s.Tariffs = []api.PriceTariff{} },
		func(s *api.PriceSheet) { s.Tariffs = slices.Repeat(s.Tariffs[:1], 4) },
		func(s *api.PriceSheet) { s.Tariffs = slices.Repeat(s.Tariffs[:1], 1000) },
	} {
		bad = append(bad, with(p(), change))
	}
	for number := range 2 {
		for _, change := range badBoards() {
			bad = append(bad, with(p(), func(s *api.PriceSheet) { change(&s.Boards[number]) }))
		}
	}
	for number := range 3 {
		for _, change := range badTariffs() {
			bad = append(bad, with(p(), func(s *api.PriceSheet) { change(&s.Tariffs[number]) }))
		}
	}
	return bad
}

// badBoards returns changes each of which makes a board one that is not as defined.
func badBoards() []func(*api.PriceBoard) {
	return []func(*api.PriceBoard){
		func(b *api.PriceBoard) { b.Letters = -1 },
		func(b *api.PriceBoard) { b.Letters = 61 },
		func(b *api.PriceBoard) { b.Letters = math.MaxInt },
		func(b *api.PriceBoard) { b.Feet = -1 },
		func(b *api.PriceBoard) { b.Feet = 41 },
		func(b *api.PriceBoard) { b.Feet = math.MinInt },
		func(b *api.PriceBoard) { b.Hours = span(-1, 3) },
		func(b *api.PriceBoard) { b.Hours = span(38, 41) },
		func(b *api.PriceBoard) { b.Hours = span(3, 2) },
		func(b *api.PriceBoard) { b.Hours = span(4, 2) },
		func(b *api.PriceBoard) { b.Hours = span(2, 9) },
		func(b *api.PriceBoard) { b.Hours = span(0, 40) },
		func(b *api.PriceBoard) { b.Hours = span(math.MinInt, math.MaxInt) },
		func(b *api.PriceBoard) { b.Hours = span(math.MaxInt, math.MinInt) },
		func(b *api.PriceBoard) { b.Owner = -1 },
		func(b *api.PriceBoard) { b.Owner = 2 },
		func(b *api.PriceBoard) { b.Owner = math.MaxInt },
	}
}

// badTariffs returns changes each of which makes a tariff one that is not as defined.
func badTariffs() []func(*api.PriceTariff) {
	return []func(*api.PriceTariff){
		func(t *api.PriceTariff) { t.Kind = 0 },
		func(t *api.PriceTariff) { t.Kind = -1 },
		func(t *api.PriceTariff) { t.Kind = 5 },
		func(t *api.PriceTariff) { t.Kind = math.MaxInt },
		func(t *api.PriceTariff) { t.Coins = -1 },
		func(t *api.PriceTariff) { t.Coins = 501 },
		func(t *api.PriceTariff) { t.Coins = math.MaxInt },
		func(t *api.PriceTariff) { t.Units = 0 },
		func(t *api.PriceTariff) { t.Units = -3 },
		func(t *api.PriceTariff) { t.Units = 13 },
		func(t *api.PriceTariff) { t.Rule = 0 },
		func(t *api.PriceTariff) { t.Rule = -1 },
		func(t *api.PriceTariff) { t.Rule = 5 },
		func(t *api.PriceTariff) { t.Rule = math.MinInt },
	}
}

// P8.1: sheets at all limits are as defined.
func TestCheckLimits(t *testing.T) {
	for i, s := range []api.PriceSheet{
		p(), one(), largest(), widest(), empty(),
		with(p(), func(s *api.PriceSheet) { s.Offs = l(0, 100) }),
		with(p(), func(s *api.PriceSheet) { s.Boards = s.Boards[:1] }),
		with(p(), func(s *api.PriceSheet) { s.Boards = slices.Repeat(s.Boards, 2) }),
		with(p(), func(s *api.PriceSheet) { s.Tariffs = s.Tariffs[2:] }),
		with(p(), func(s *api.PriceSheet) { s.Boards[0] = board(0, 0, 0, 6, 1) }),
		with(p(), func(s *api.PriceSheet) { s.Boards[1] = board(60, 40, 34, 40, 0) }),
		with(p(), func(s *api.PriceSheet) { s.Tariffs[0] = all(api.PriceFriend, 0, 1, api.PriceDown) }),
		with(p(), func(s *api.PriceSheet) { s.Tariffs[2] = each(api.PriceLetter, 500, 12, api.PriceEven) }),
		with(p(), func(s *api.PriceSheet) { s.Tariffs[1] = s.Tariffs[0] }),
	} {
		if e := price.Check(s); e != api.OK {
			t.Error(i, e)
		}
	}
}

// lists returns the functions that return a list for a tariff and hours.
func lists() []func(api.PriceSheet, int, []int) ([]int, api.Errno) {
	return []func(api.PriceSheet, int, []int) ([]int, api.Errno){price.Parts, price.Rules, price.Share, price.Loses, price.Owes}
}

// refuse checks that the functions of a tariff and hours return ErrArg, and nothing else.
func refuse(t *testing.T, s api.PriceSheet, tariff int, hours []int) {
	t.Helper()
	if n, e := price.Total(s, tariff, hours); e != api.ErrArg || n != 0 {
		t.Error(s, tariff, hours, n, e)
	}
	for i, of := range lists() {
		if y, e := of(s, tariff, hours); e != api.ErrArg || len(y) > 0 {
			t.Error(i, s, tariff, hours, y, e)
		}
	}
}

// refuseTwo checks the same of those of two tariffs and hours.
func refuseTwo(t *testing.T, s api.PriceSheet, one, other int, hours []int) {
	t.Helper()
	if n, e := price.Where(s, one, other, hours); e != api.ErrArg || n != 0 {
		t.Error(s, one, other, hours, n, e)
	}
	if n, e := price.Change(s, one, other, hours); e != api.ErrArg || n != 0 {
		t.Error(s, one, other, hours, n, e)
	}
}

// refuseTariffs checks the same of those of two tariffs.
func refuseTariffs(t *testing.T, s api.PriceSheet, one, other int) {
	t.Helper()
	if w, e := price.Same(s, one, other); e != api.ErrArg || w != 0 {
		t.Error(s, one, other, w, e)
	}
	if y, e := price.When(s, one, other); e != api.ErrArg || len(y) > 0 {
		t.Error(s, one, other, y, e)
	}
}

// refuseHours checks the same of Cheapest.
func refuseHours(t *testing.T, s api.PriceSheet, hours []int) {
	t.Helper()
	if tariff, n, e := price.Cheapest(s, hours); e != api.ErrArg || tariff != 0 || n != 0 {
		t.Error(s, hours, tariff, n, e)
	}
}

// P8.1 to P8.7: all functions return ErrArg for a sheet that is not as defined, and nothing else.
func TestBadSheets(t *testing.T) {
	for i, s := range badSheets() {
		if e := price.Check(s); e != api.ErrArg {
			t.Error(i, e)
		}
		if y, e := price.Paid(s, 0); e != api.ErrArg || y != (api.Span{}) {
			t.Error(i, y, e)
		}
		if text, e := price.Print(s); e != api.ErrArg || text != "" {
			t.Error(i, text, e)
		}
		refuseTariffs(t, s, 0, 1)
		for _, hours := range [][]int{l(3, 2), l(4, 2), nil} {
			refuse(t, s, 0, hours)
			refuseTwo(t, s, 0, 1, hours)
			refuseHours(t, s, hours)
		}
	}
}

// P8.1 to P8.6: numbers that are of no tariff, or twice of the same one.
func TestBadTariffs(t *testing.T) {
	for _, bad := range l(-1, 3, 4, math.MinInt, math.MaxInt) {
		if y, e := price.Paid(p(), bad); e != api.ErrArg || y != (api.Span{}) {
			t.Error(bad, y, e)
		}
		refuse(t, p(), bad, l(3, 2))
		for _, x := range [][2]int{{0, bad}, {bad, 0}, {2, bad}, {bad, 2}, {bad, bad}} {
			refuseTariffs(t, p(), x[0], x[1])
			refuseTwo(t, p(), x[0], x[1], l(3, 2))
		}
	}
	for tariff := range 3 {
		refuseTariffs(t, p(), tariff, tariff)
		refuseTwo(t, p(), tariff, tariff, l(3, 2))
	}
	refuse(t, one(), 1, l(1))
	refuseTariffs(t, one(), 0, 1)
	refuseTwo(t, one(), 1, 0, l(1))
}

// P8.1 to P8.6: lists that are none of hours.
func TestBadHours(t *testing.T) {
	for _, bad := range [][]int{nil, {}, l(3), l(3, 2, 2), l(2, 2), l(5, 2), l(3, 1), l(3, 3), l(-3, 2), l(2, 3), l(math.MinInt, 2), l(3, math.MaxInt), make([]int, 1000)} {
		for tariff := range 3 {
			refuse(t, p(), tariff, bad)
			refuseTwo(t, p(), tariff, (tariff+1)%3, bad)
		}
		refuseHours(t, p(), bad)
	}
}

// P8.1: the examples of the chapter, and sheets with the least and the most of everything.
func TestPaid(t *testing.T) {
	for i, x := range []struct {
		s      api.PriceSheet
		tariff int
		want   api.Span
	}{
		{p(), 0, span(20, 20)}, {p(), 1, span(20, 20)}, {p(), 2, span(20, 24)}, {one(), 0, span(1, 1)},
		{largest(), 1, span(168, 168)}, {empty(), 0, span(0, 0)}, {empty(), 1, span(0, 0)}, {empty(), 2, span(9, 9)},
		// 45 to 69 hours
		{widest(), 0, span(22500, 34500)}, {widest(), 1, span(1875, 2875)}, {widest(), 2, span(0, 0)},
		{with(widest(), func(s *api.PriceSheet) { s.Tariffs[0].Kind = api.PriceLetter }), 0, span(75000, 75000)}, {with(largest(), func(s *api.PriceSheet) { s.Tariffs[0] = all(api.PriceLetter, 500, 1, api.PriceUp) }), 0, span(120000, 120000)},
	} {
		if y, e := price.Paid(x.s, x.tariff); e != api.OK || y != x.want {
			t.Error(i, y, e)
		}
	}
}

// P8.1 and P8.2: the examples of the chapter, and prices that are just a half, or a bit more or less.
func TestTotalPartsRules(t *testing.T) {
	for i, x := range []struct {
		s      api.PriceSheet
		tariff int
		hours  []int
		total  int
		parts  []int
		rules  []int
	}{
		{p(), 2, l(4, 2), 24, l(16, 8), l(24, 24, 24, 24)}, {p(), 2, l(3, 2), 20, l(12, 8), l(20, 20, 20, 20)}, {p(), 0, l(3, 2), 20, l(12, 8), l(19, 21, 20, 20)}, {p(), 1, l(3, 2), 20, l(12, 7), l(20, 20, 20, 20)}, {one(), 0, l(1), 1, l(1), l(1, 1, 1, 1)},
		{empty(), 0, l(0, 0, 0), 0, l(0, 0, 0), l(0, 0, 0, 0)}, {empty(), 2, l(0, 0, 0), 9, l(3, 3, 3), l(6, 9, 9, 6)}, {largest(), 0, l(40, 40, 40, 40), 168, l(42, 42, 42, 42), l(164, 168, 168, 168)},
		// a half, one and a half, two and a half; and seven halves, or four and a half together
		{counted(l(1, 3, 5), each(api.PriceLetter, 1, 2, api.PriceNear)), 0, l(1, 3, 5), 6, l(1, 2, 3), l(3, 6, 6, 4)}, {counted(l(1, 3, 5), each(api.PriceFoot, 1, 2, api.PriceEven)), 0, l(1, 3, 5), 4, l(0, 2, 2), l(3, 6, 6, 4)}, {counted(l(1, 3, 5), all(api.PriceHour, 1, 2, api.PriceEven)), 0, l(1, 3, 5), 4, l(0, 2, 2), l(4, 5, 5, 4)}, {counted(l(1, 3, 7), all(api.PriceHour, 1, 2, api.PriceEven)), 0, l(1, 3, 7), 6, l(0, 2, 4), l(5, 6, 6, 6)},
		// sevenths: three are less than a half, four are more
		{counted(l(3, 4, 10), each(api.PriceHour, 1, 7, api.PriceNear)), 0, l(3, 4, 10), 2, l(0, 1, 1), l(1, 4, 2, 2)}, {counted(l(3, 4, 11), each(api.PriceHour, 1, 7, api.PriceEven)), 0, l(3, 4, 11), 3, l(0, 1, 2), l(1, 4, 3, 3)}, {counted(l(3, 4, 10), all(api.PriceHour, 1, 7, api.PriceUp)), 0, l(3, 4, 10), 3, l(1, 1, 2), l(2, 3, 2, 2)},
		// twelfths: five, six and seven
		{counted(l(5, 6, 7), each(api.PriceLetter, 1, 12, api.PriceNear)), 0, l(5, 6, 7), 2, l(0, 1, 1), l(0, 3, 2, 1)}, {counted(l(17, 18, 19), each(api.PriceLetter, 1, 12, api.PriceEven)), 0, l(17, 18, 19), 5, l(1, 2, 2), l(3, 6, 5, 5)},
		// as many boards, and not as many letters, are friends' prices
		{counted(l(9, 8, 7), each(api.PriceFriend, 10, 4, api.PriceDown)), 0, l(9, 8, 7), 6, l(2, 2, 2), l(6, 9, 9, 6)}, {counted(l(9, 8, 7), all(api.PriceFriend, 10, 4, api.PriceDown)), 0, l(9, 8, 7), 7, l(2, 2, 2), l(7, 8, 8, 8)},
		{counted(l(9, 8, 7), all(api.PriceLetter, 0, 5, api.PriceUp)), 0, l(9, 8, 7), 0, l(0, 0, 0), l(0, 0, 0, 0)},
	} {
		if n, e := price.Total(x.s, x.tariff, x.hours); e != api.OK || n != x.total {
			t.Error(i, n, e)
		}
		if y, e := price.Parts(x.s, x.tariff, x.hours); e != api.OK || !slices.Equal(y, x.parts) {
			t.Error(i, y, e)
		}
		if y, e := price.Rules(x.s, x.tariff, x.hours); e != api.OK || !slices.Equal(y, x.rules) {
			t.Error(i, y, e)
		}
	}
}

// ranging returns a sheet of a board with 10 letters, and 5 to 11 hours, another one with 4 letters, and 0 to 3 hours, and two tariffs.
func ranging(one, other api.PriceTariff) api.PriceSheet {
	return api.PriceSheet{Offs: l(0), Boards: []api.PriceBoard{board(10, 8, 5, 11, 0), board(4, 2, 0, 3, 0)}, Tariffs: []api.PriceTariff{one, other}}
}

// P8.3: the examples of the chapter, and tariffs that are the same with few hours alone.
func TestSameWhen(t *testing.T) {
	hour, letter, friend := each(api.PriceHour, 1, 1, api.PriceUp), each(api.PriceLetter, 1, 1, api.PriceUp), each(api.PriceFriend, 1, 1, api.PriceUp)
	for i, x := range []struct {
		s          api.PriceSheet
		one, other int
		word       api.PriceWord
		when       []int
	}{
		{p(), 0, 1, surely, l(3, 2)}, {p(), 0, 2, may, l(3, 2)}, {p(), 2, 0, may, l(3, 2)}, {p(), 1, 2, may, l(3, 2)}, {empty(), 0, 1, surely, l(0, 0, 0)}, {empty(), 1, 2, never, nil}, {largest(), 2, 0, surely, l(40, 40, 40, 40)}, {widest(), 0, 1, never, nil}, {widest(), 1, 2, never, nil},
		// 14 letters: hours are as many at the very end
		{ranging(hour, letter), 0, 1, may, l(11, 3)}, {ranging(letter, hour), 0, 1, may, l(11, 3)}, {ranging(hour, each(api.PriceFoot, 1, 1, api.PriceDown)), 1, 0, may, l(7, 3)}, {ranging(hour, each(api.PriceFriend, 5, 2, api.PriceEven)), 0, 1, never, nil}, {ranging(hour, all(api.PriceFriend, 5, 2, api.PriceEven)), 0, 1, may, l(5, 0)}, {ranging(hour, each(api.PriceFriend, 5, 2, api.PriceNear)), 0, 1, may, l(5, 1)},
		{ranging(hour, friend), 0, 1, never, nil}, {ranging(hour, each(api.PriceFriend, 15, 2, api.PriceNear)), 0, 1, never, nil}, {ranging(hour, all(api.PriceFriend, 15, 2, api.PriceNear)), 0, 1, never, nil}, {ranging(hour, all(api.PriceFriend, 14, 2, api.PriceNear)), 0, 1, may, l(11, 3)},
		{ranging(hour, hour), 0, 1, surely, l(5, 0)}, {ranging(hour, all(api.PriceHour, 2, 2, api.PriceEven)), 1, 0, surely, l(5, 0)}, {ranging(hour, all(api.PriceHour, 2, 1, api.PriceDown)), 0, 1, never, nil},
		// halves are the same rounded up and near, but not those of all hours together; nor if all have some
		{ranging(each(api.PriceHour, 1, 2, api.PriceUp), each(api.PriceHour, 1, 2, api.PriceNear)), 0, 1, surely, l(5, 0)}, {ranging(each(api.PriceHour, 1, 2, api.PriceUp), all(api.PriceHour, 1, 2, api.PriceUp)), 0, 1, may, l(5, 0)}, {ranging(each(api.PriceHour, 1, 2, api.PriceUp), all(api.PriceHour, 1, 2, api.PriceDown)), 0, 1, may, l(6, 0)}, {ranging(each(api.PriceHour, 1, 2, api.PriceDown), each(api.PriceHour, 1, 2, api.PriceEven)), 0, 1, may, l(5, 0)}, {ranging(each(api.PriceHour, 1, 2, api.PriceEven), each(api.PriceHour, 1, 2, api.PriceNear)), 0, 1, may, l(6, 0)},
		// they are the same with all hours but the last ones, or but the first ones
		{ranging(all(api.PriceHour, 3, 7, api.PriceDown), all(api.PriceFriend, 5, 2, api.PriceUp)), 0, 1, may, l(9, 3)},
		{api.PriceSheet{Offs: l(0), Boards: []api.PriceBoard{board(0, 0, 0, 6, 0), board(0, 0, 0, 6, 0)}, Tariffs: []api.PriceTariff{all(api.PriceHour, 1, 12, api.PriceDown), all(api.PriceFriend, 0, 1, api.PriceDown)}}, 0, 1, may, l(0, 0)},
		{api.PriceSheet{Offs: l(0), Boards: []api.PriceBoard{board(0, 0, 0, 6, 0), board(0, 0, 0, 6, 0)}, Tariffs: []api.PriceTariff{all(api.PriceHour, 1, 12, api.PriceUp), all(api.PriceFriend, 1, 2, api.PriceDown)}}, 0, 1, may, l(0, 1)},
	} {
		if w, e := price.Same(x.s, x.one, x.other); e != api.OK || w != x.word {
			t.Error(i, w, e)
		}
		wanted := api.OK
		if x.when == nil {
			wanted = api.ErrNone
		}
		if y, e := price.When(x.s, x.one, x.other); e != wanted || !slices.Equal(y, x.when) {
			t.Error(i, y, e)
		}
	}
}

// P8.4: the examples of the chapter, and boards of which the first or the last one differs.
func TestWhere(t *testing.T) {
	letter := each(api.PriceLetter, 1, 1, api.PriceUp)
	for i, x := range []struct {
		s          api.PriceSheet
		one, other int
		hours      []int
		want       int
		e          api.Errno
	}{
		{p(), 0, 1, l(3, 2), 1, api.OK}, {p(), 1, 0, l(3, 2), 1, api.OK}, {p(), 0, 2, l(3, 2), 0, api.ErrNone}, {p(), 0, 2, l(4, 2), 0, api.OK}, {p(), 1, 2, l(3, 2), 1, api.OK}, {p(), 1, 2, l(4, 2), 0, api.OK},
		{empty(), 0, 1, l(0, 0, 0), 0, api.ErrNone}, {empty(), 0, 2, l(0, 0, 0), 0, api.OK}, {largest(), 0, 1, l(40, 40, 40, 40), 0, api.ErrNone}, {widest(), 1, 2, l(0, 34, 10, 1), 1, api.OK}, {widest(), 2, 1, l(1, 34, 10, 1), 0, api.OK},
		// prices of boards are the same, or not, whether or not what is paid is
		{counted(l(4, 5, 6), letter, all(api.PriceHour, 1, 1, api.PriceDown)), 0, 1, l(4, 5, 6), 0, api.ErrNone}, {counted(l(4, 4, 6), all(api.PriceLetter, 1, 2, api.PriceUp), all(api.PriceFoot, 1, 2, api.PriceDown)), 0, 1, l(4, 4, 6), 0, api.ErrNone}, {counted(l(4, 6, 5), all(api.PriceLetter, 1, 2, api.PriceUp), all(api.PriceFoot, 1, 2, api.PriceDown)), 0, 1, l(4, 6, 5), 2, api.OK}, {counted(l(4, 5, 5), all(api.PriceLetter, 1, 2, api.PriceUp), all(api.PriceFoot, 1, 2, api.PriceDown)), 0, 1, l(4, 5, 5), 1, api.OK}, {counted(l(3, 5, 5), each(api.PriceLetter, 1, 2, api.PriceUp), all(api.PriceFoot, 1, 2, api.PriceUp)), 1, 0, l(3, 5, 5), 0, api.ErrNone},
	} {
		if n, e := price.Where(x.s, x.one, x.other, x.hours); e != x.e || n != x.want {
			t.Error(i, n, e)
		}
	}
}

// P8.6: the examples of the chapter, and Coins at both limits.
func TestChange(t *testing.T) {
	for i, x := range []struct {
		s          api.PriceSheet
		one, other int
		hours      []int
		want       int
		e          api.Errno
	}{
		{p(), 0, 2, l(4, 2), 6, api.OK}, {p(), 0, 1, l(3, 2), 5, api.OK}, {p(), 2, 0, l(4, 2), 0, api.ErrNone}, {p(), 0, 2, l(3, 2), 5, api.OK}, {p(), 1, 2, l(4, 2), 6, api.OK}, {p(), 2, 1, l(3, 2), 4, api.OK}, {empty(), 0, 1, l(0, 0, 0), 500, api.OK}, {empty(), 0, 2, l(0, 0, 0), 0, api.ErrNone}, {empty(), 2, 0, l(0, 0, 0), 0, api.OK},
		// 30 to 32 of them pay 10 for one board by three
		{counted(l(1), all(api.PriceLetter, 0, 3, api.PriceDown), all(api.PriceFriend, 10, 1, api.PriceUp)), 0, 1, l(1), 30, api.OK}, {counted(l(1), all(api.PriceLetter, 30, 3, api.PriceDown), all(api.PriceFriend, 10, 1, api.PriceUp)), 0, 1, l(1), 30, api.OK}, {counted(l(1), all(api.PriceLetter, 31, 3, api.PriceDown), all(api.PriceFriend, 10, 1, api.PriceUp)), 0, 1, l(1), 31, api.OK}, {counted(l(1), all(api.PriceLetter, 32, 3, api.PriceDown), all(api.PriceFriend, 10, 1, api.PriceUp)), 0, 1, l(1), 32, api.OK}, {counted(l(1), all(api.PriceLetter, 33, 3, api.PriceDown), all(api.PriceFriend, 10, 1, api.PriceUp)), 0, 1, l(1), 32, api.OK}, {counted(l(1), all(api.PriceLetter, 500, 3, api.PriceDown), all(api.PriceFriend, 10, 1, api.PriceUp)), 0, 1, l(1), 32, api.OK},
		// none at all, or as many as there can be
		{counted(l(1), all(api.PriceLetter, 500, 1, api.PriceDown), all(api.PriceFriend, 0, 1, api.PriceUp)), 0, 1, l(1), 0, api.OK}, {counted(l(1), all(api.PriceLetter, 0, 1, api.PriceDown), all(api.PriceFriend, 500, 1, api.PriceUp)), 0, 1, l(1), 500, api.OK}, {counted(l(2), all(api.PriceFriend, 7, 1, api.PriceDown), all(api.PriceLetter, 251, 1, api.PriceUp)), 0, 1, l(2), 0, api.ErrNone}, {counted(l(2), all(api.PriceFriend, 7, 1, api.PriceDown), all(api.PriceLetter, 250, 1, api.PriceUp)), 0, 1, l(2), 500, api.OK}, {counted(l(0), all(api.PriceLetter, 7, 1, api.PriceDown), all(api.PriceFriend, 0, 1, api.PriceUp)), 0, 1, l(0), 7, api.OK}, {counted(l(0), all(api.PriceLetter, 7, 1, api.PriceDown), all(api.PriceFriend, 1, 1, api.PriceUp)), 0, 1, l(0), 0, api.ErrNone},
		// of each board half a coin more is a coin more
		{counted(l(1, 1), each(api.PriceLetter, 9, 2, api.PriceNear), all(api.PriceFriend, 10, 2, api.PriceUp)), 0, 1, l(1, 1), 9, api.OK}, {counted(l(1, 1), each(api.PriceLetter, 12, 2, api.PriceNear), all(api.PriceFriend, 9, 2, api.PriceUp)), 0, 1, l(1, 1), 0, api.ErrNone}, {counted(l(1, 1), all(api.PriceLetter, 12, 2, api.PriceNear), all(api.PriceFriend, 9, 2, api.PriceUp)), 0, 1, l(1, 1), 9, api.OK},
	} {
		if n, e := price.Change(x.s, x.one, x.other, x.hours); e != x.e || n != x.want {
			t.Error(i, n, e)
		}
	}
}

// P8.4: the examples of the chapter, and tariffs of which several are as cheap.
func TestCheapest(t *testing.T) {
	pays := func(coins int) api.PriceTariff { return each(api.PriceFriend, coins, 1, api.PriceDown) }
	for i, x := range []struct {
		s            api.PriceSheet
		hours        []int
		tariff, paid int
	}{
		{p(), l(3, 2), 0, 20}, {p(), l(4, 2), 0, 20}, {one(), l(1), 0, 1}, {empty(), l(0, 0, 0), 0, 0}, {largest(), l(40, 40, 40, 40), 0, 168}, {widest(), l(0, 34, 10, 1), 2, 0},
		{counted(l(5), pays(3), pays(2), pays(1)), l(5), 2, 1}, {counted(l(5), pays(3), pays(1), pays(2)), l(5), 1, 1}, {counted(l(5), pays(1), pays(3), pays(2)), l(5), 0, 1}, {counted(l(5), pays(3), pays(2), pays(2)), l(5), 1, 2}, {counted(l(5), pays(2), pays(3), pays(2)), l(5), 0, 2}, {counted(l(5), pays(500)), l(5), 0, 500},
		{with(p(), func(s *api.PriceSheet) { s.Tariffs = s.Tariffs[1:] }), l(4, 2), 0, 20}, {with(p(), func(s *api.PriceSheet) { s.Tariffs[1].Coins = 4 }), l(4, 2), 1, 16}, {with(p(), func(s *api.PriceSheet) { s.Tariffs[2].Coins = 3 }), l(3, 2), 2, 15}, {with(p(), func(s *api.PriceSheet) { s.Tariffs[2].Coins = 3 }), l(4, 2), 2, 18},
	} {
		if tariff, n, e := price.Cheapest(x.s, x.hours); e != api.OK || tariff != x.tariff || n != x.paid {
			t.Error(i, tariff, n, e)
		}
	}
}

// P8.5: the examples of the chapter, and coins that are left.
func TestShares(t *testing.T) {
	off := func(s api.PriceSheet, offs ...int) api.PriceSheet {
		return with(s, func(s *api.PriceSheet) { s.Offs = offs })
	}
	owned := func(s api.PriceSheet, owners ...int) api.PriceSheet {
		return with(s, func(s *api.PriceSheet) {
			for i, owner := range owners {
				s.Boards[i].Owner = owner
			}
		})
	}
	for i, x := range []struct {
		s                  api.PriceSheet
		tariff             int
		hours              []int
		share, loses, owes []int
	}{
		{p(), 0, l(3, 2), l(12, 8), l(0, 0), l(12, 6)}, {p(), 1, l(3, 2), l(13, 7), l(1, 0), l(13, 6)}, {p(), 2, l(4, 2), l(16, 8), l(0, 0), l(16, 6)}, {one(), 0, l(1), l(1), l(0), l(1)},
		{empty(), 0, l(0, 0, 0), l(0, 0, 0), l(0, 0, 0), l(0, 0, 0)}, {empty(), 1, l(0, 0, 0), l(0, 0, 0), l(0, 0, 0), l(0, 0, 0)}, {empty(), 2, l(0, 0, 0), l(3, 0, 6), l(0, 0, 0), l(3, 0, 5)}, {largest(), 0, l(40, 40, 40, 40), l(0, 0, 168), l(0, 0, 0), l(0, 0, 0)},
		// one coin, or two, for three who have as much
		{counted(l(1, 1, 1), all(api.PriceLetter, 1, 3, api.PriceDown)), 0, l(1, 1, 1), l(1, 0, 0), l(1, 0, 0), l(1, 0, 0)}, {counted(l(1, 1, 1), all(api.PriceLetter, 2, 3, api.PriceDown)), 0, l(1, 1, 1), l(1, 1, 0), l(1, 1, 0), l(1, 1, 0)}, {counted(l(1, 1, 1), all(api.PriceLetter, 4, 3, api.PriceUp)), 0, l(1, 1, 1), l(2, 1, 1), l(0, -1, -1), l(2, 1, 1)}, {counted(l(1, 1, 1), all(api.PriceFriend, 5, 3, api.PriceUp)), 0, l(1, 1, 1), l(2, 2, 1), l(0, 0, -1), l(2, 2, 1)},
		// two coins of which a sixth, two sixths and three sixths are paid; the rests are 2, 4 and 0 sixths. Of four coins they are 4, 2 and 0 sixths, of five 5, 4 and 3
		{counted(l(1, 2, 3), all(api.PriceLetter, 1, 3, api.PriceDown)), 0, l(1, 2, 3), l(0, 1, 1), l(0, 1, 0), l(0, 1, 1)}, {counted(l(1, 2, 3), all(api.PriceLetter, 2, 3, api.PriceDown)), 0, l(1, 2, 3), l(1, 1, 2), l(1, 0, 0), l(1, 1, 2)}, {counted(l(3, 2, 1), all(api.PriceHour, 2, 3, api.PriceDown)), 0, l(3, 2, 1), l(2, 1, 1), l(0, 0, 1), l(2, 1, 1)}, {counted(l(1, 2, 3), all(api.PriceFoot, 5, 6, api.PriceDown)), 0, l(1, 2, 3), l(1, 2, 2), l(1, 1, 0), l(1, 2, 2)}, {counted(l(3, 2, 1), all(api.PriceFoot, 5, 6, api.PriceDown)), 0, l(3, 2, 1), l(2, 2, 1), l(0, 1, 1), l(2, 2, 1)},
		// who has no board pays nothing; the boards of an owner are paid together
		{owned(counted(l(1, 2, 3), all(api.PriceLetter, 2, 3, api.PriceDown)), 2, 0, 2), 0, l(1, 2, 3), l(1, 0, 3), l(0, 0, 1), l(1, 0, 3)}, {owned(counted(l(2, 2, 3), each(api.PriceLetter, 1, 2, api.PriceUp)), 1, 0, 1), 0, l(2, 2, 3), l(1, 3, 0), l(0, 0, 0), l(1, 3, 0)}, {owned(counted(l(1, 1, 1), each(api.PriceLetter, 1, 2, api.PriceUp)), 1, 1, 0), 0, l(1, 1, 1), l(1, 2, 0), l(0, 0, 0), l(1, 2, 0)}, {owned(counted(l(1, 1, 1), all(api.PriceLetter, 1, 2, api.PriceUp)), 1, 1, 0), 0, l(1, 1, 1), l(1, 1, 0), l(0, 0, 0), l(1, 1, 0)},
		// what is taken off is rounded down
		{off(counted(l(10, 10, 10), all(api.PriceLetter, 1, 1, api.PriceDown)), 9, 10, 11), 0, l(10, 10, 10), l(10, 10, 10), l(0, 0, 0), l(10, 9, 9)}, {off(counted(l(10, 10, 10), all(api.PriceLetter, 1, 1, api.PriceDown)), 0, 99, 100), 0, l(10, 10, 10), l(10, 10, 10), l(0, 0, 0), l(10, 1, 0)},
	} {
		if y, e := price.Share(x.s, x.tariff, x.hours); e != api.OK || !slices.Equal(y, x.share) {
			t.Error(i, y, e)
		}
		if y, e := price.Loses(x.s, x.tariff, x.hours); e != api.OK || !slices.Equal(y, x.loses) {
			t.Error(i, y, e)
		}
		if y, e := price.Owes(x.s, x.tariff, x.hours); e != api.OK || !slices.Equal(y, x.owes) {
			t.Error(i, y, e)
		}
	}
}

// P8.1, P8.2 and P8.5: on sheets of any size, what a tariff says of hours that somebody proposes.
func TestOneTariffLikeTheModel(t *testing.T) {
	roll := dice(1)
	more, less := 0, 0
	for range 4000 {
		s := roll.any()
		tariff := roll.upTo(len(s.Tariffs) - 1)
		its, hours := s.Tariffs[tariff], roll.hours(s)
		if n, e := price.Total(s, tariff, hours); e != api.OK || n != modelPaid(s, its, hours) {
			t.Fatal(s, tariff, hours, n, e)
		}
		wants := [][]int{modelPrices(s, its, hours), modelRules(s, its, hours), modelShares(s, its, hours), modelLoses(s, its, hours), modelOwes(s, its, hours)}
		for i, of := range lists() {
			if y, e := of(s, tariff, hours); e != api.OK || !slices.Equal(y, wants[i]) {
				t.Fatal(i, s, tariff, hours, y, wants[i], e)
			}
		}
		if slices.Max(wants[3]) > 0 {
			more++
		}
		if slices.Min(wants[3]) < 0 {
			less++
		}
	}
	if more < 100 || less < 100 {
		t.Error(more, less)
	}
}

// P8.1: on sheets of any size, what is paid lies between the bounds, with all hours that somebody could propose, and with some it is at each of them.
func TestPaidLikeTheModel(t *testing.T) {
	roll := dice(2)
	wide := 0
	for range 400 {
		s := roll.any()
		tariff := roll.upTo(len(s.Tariffs) - 1)
		least, most := math.MaxInt, 0
		for _, hours := range modelHours(s) {
			n := modelPaid(s, s.Tariffs[tariff], hours)
			least, most = min(least, n), max(most, n)
		}
		y, e := price.Paid(s, tariff)
		if e != api.OK || y != span(least, most) {
			t.Fatal(s, tariff, y, least, most, e)
		}
		if least < most {
			wide++
		}
		if n, e := price.Total(s, tariff, roll.hours(s)); e != api.OK || n < least || n > most {
			t.Fatal(s, tariff, n, y, e)
		}
	}
	if wide < 50 {
		t.Error(wide)
	}
}

// P8.3: by all hours that somebody could propose, of which none that comes before is one with which as much is paid.
func TestSameLikeTheModel(t *testing.T) {
	roll := dice(3)
	seen, later := map[api.PriceWord]int{}, 0
	for range 2500 {
		s := roll.close()
		one := roll.upTo(1)
		other := 1 - one
		word, first := modelSame(s, one, other)
		seen[word]++
		if w, e := price.Same(s, one, other); e != api.OK || w != word {
			t.Fatal(s, one, other, w, word, e)
		}
		wanted := api.OK
		if word == never {
			wanted = api.ErrNone
		}
		if y, e := price.When(s, one, other); e != wanted || !slices.Equal(y, first) {
			t.Fatal(s, one, other, y, first, e)
		}
		if word == may && !slices.Equal(first, modelHours(s)[0]) {
			later++
		}
	}
	if seen[never] < 100 || seen[may] < 100 || seen[surely] < 100 || later < 50 {
		t.Error(seen, later)
	}
}

// modelWhere returns the first board whose prices by two tariffs are not the same, or ErrNone.
func modelWhere(s api.PriceSheet, one, other int, hours []int) (int, api.Errno) {
	others := modelPrices(s, s.Tariffs[other], hours)
	for i, n := range modelPrices(s, s.Tariffs[one], hours) {
		if n != others[i] {
			return i, api.OK
		}
	}
	return 0, api.ErrNone
}

// P8.4 and P8.6: by all boards, tariffs and Coins that somebody could propose.
func TestTwoTariffsLikeTheModel(t *testing.T) {
	roll := dice(4)
	boards, changed, none := 0, 0, 0
	for i := range 1500 {
		s := roll.close()
		if i%3 == 0 {
			s = roll.sheet(2+roll.upTo(1), 1<<roll.upTo(6), 500)
		}
		hours := roll.hours(s)
		one := roll.upTo(1)
		wanted, f := modelWhere(s, one, 1-one, hours)
		if n, e := price.Where(s, one, 1-one, hours); e != f || n != wanted {
			t.Fatal(s, one, hours, n, wanted, e)
		}
		if wanted > 0 {
			boards++
		}
		switch sameChange(t, s, one, 1-one, hours) {
		case api.ErrNone:
			none++
		case api.OK:
			changed++
		}
		cheapestLikeTheModel(t, s, hours)
	}
	if boards < 100 || changed < 300 || none < 300 {
		t.Error(boards, changed, none)
	}
}

// sameChange checks what Change returns by all Coins that there can be: none with which as much is paid are nearer.
func sameChange(t *testing.T, s api.PriceSheet, one, other int, hours []int) api.Errno {
	t.Helper()
	can, own := modelChange(s, one, other, hours), s.Tariffs[one].Coins
	n, e := price.Change(s, one, other, hours)
	if len(can) == 0 {
		if e != api.ErrNone || n != 0 {
			t.Fatal(s, one, other, hours, n, e)
		}
		return e
	}
	if e != api.OK || !slices.Contains(can, n) {
		t.Fatal(s, one, other, hours, n, can, e)
	}
	for _, coins := range can {
		if distance(coins, own) < distance(n, own) {
			t.Fatal(s, one, other, hours, n, coins)
		}
	}
	return e
}

// cheapestLikeTheModel checks that no tariff is cheaper than the one that is returned, and that none before it is as cheap.
func cheapestLikeTheModel(t *testing.T, s api.PriceSheet, hours []int) {
	t.Helper()
	cheapest, least, e := price.Cheapest(s, hours)
	if e != api.OK || least != modelPaid(s, s.Tariffs[cheapest], hours) {
		t.Fatal(s, hours, cheapest, least, e)
	}
	for tariff, its := range s.Tariffs {
		if n := modelPaid(s, its, hours); n < least || n == least && tariff < cheapest {
			t.Fatal(s, hours, cheapest, least, tariff, n)
		}
	}
}
