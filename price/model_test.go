package price_test

import (
	"slices"

	"mahlstick/api"
)

// This file has the chapter's definitions once more, as slow and as plain as can be, and sheets on which both are compared.

// distance returns by how much two numbers differ.
func distance(a, b int) int {
	if a < b {
		return b - a
	}
	return a - b
}

// total returns the sum of some numbers.
func total(numbers []int) int {
	all := 0
	for _, n := range numbers {
		all += n
	}
	return all
}

// modelRounded returns a number of coins divided by a number of units, as a rule rounds it: it goes through all whole numbers that are near.
func modelRounded(coins, units int, rule api.PriceRule) int {
	var down, up []int
	for n := coins/units - 2; n <= coins/units+2; n++ {
		if n*units <= coins {
			down = append(down, n)
		}
		if n*units >= coins {
			up = append(up, n)
		}
	}
	below, above := down[len(down)-1], up[0]
	toBelow, toAbove := distance(below*units, coins), distance(above*units, coins)
	switch {
	case rule == api.PriceDown:
		return below
	case rule == api.PriceUp:
		return above
	case toBelow < toAbove:
		return below
	case toBelow > toAbove:
		return above
	case rule == api.PriceEven && below%2 == 0:
		return below
	default:
		return above
	}
}

// modelQuantity returns the quantity of a board that takes so many hours.
func modelQuantity(t api.PriceTariff, b api.PriceBoard, hours int) int {
	switch t.Kind {
	case api.PriceLetter:
		return b.Letters
	case api.PriceFoot:
		return b.Feet
	case api.PriceHour:
		return hours
	default:
		return 1
	}
}

// modelQuantities returns the quantities of all boards.
func modelQuantities(s api.PriceSheet, t api.PriceTariff, hours []int) []int {
	var all []int
	for i, b := range s.Boards {
		all = append(all, modelQuantity(t, b, hours[i]))
	}
	return all
}

// modelPrices returns the prices of all boards.
func modelPrices(s api.PriceSheet, t api.PriceTariff, hours []int) []int {
	var all []int
	for _, quantity := range modelQuantities(s, t, hours) {
		all = append(all, modelRounded(quantity*t.Coins, t.Units, t.Rule))
	}
	return all
}

// modelPaid returns what is paid.
func modelPaid(s api.PriceSheet, t api.PriceTariff, hours []int) int {
	if t.Each {
		return total(modelPrices(s, t, hours))
	}
	return modelRounded(total(modelQuantities(s, t, hours))*t.Coins, t.Units, t.Rule)
}

// modelRules returns what would be paid by each rule.
func modelRules(s api.PriceSheet, t api.PriceTariff, hours []int) []int {
	var all []int
	for _, rule := range []api.PriceRule{api.PriceDown, api.PriceUp, api.PriceNear, api.PriceEven} {
		t.Rule = rule
		all = append(all, modelPaid(s, t, hours))
	}
	return all
}

// modelHours returns all lists of hours of a sheet, in lexicographic order.
func modelHours(s api.PriceSheet) [][]int {
	all := [][]int{nil}
	for _, b := range s.Boards {
		var longer [][]int
		for _, hours := range all {
			for n := b.Hours.Low; n <= b.Hours.High; n++ {
				longer = append(longer, append(slices.Clone(hours), n))
			}
		}
		all = longer
	}
	return all
}

// modelSame returns whether as much is paid by two tariffs, and the first hours with which it is.
func modelSame(s api.PriceSheet, one, other int) (api.PriceWord, []int) {
	var first []int
	all, alike := 0, 0
	for _, hours := range modelHours(s) {
		all++
		if modelPaid(s, s.Tariffs[one], hours) == modelPaid(s, s.Tariffs[other], hours) {
			if alike == 0 {
				first = hours
			}
			alike++
		}
	}
	switch alike {
	case 0:
		return never, nil
	case all:
		return surely, first
	default:
		return may, first
	}
}

// modelChange returns all Coins with which as much is paid by two tariffs, in increasing order.
func modelChange(s api.PriceSheet, one, other int, hours []int) []int {
	want := modelPaid(s, s.Tariffs[other], hours)
	var all []int
	for coins := 0; coins <= 500; coins++ {
		t := s.Tariffs[one]
		t.Coins = coins
		if modelPaid(s, t, hours) == want {
			all = append(all, coins)
		}
	}
	return all
}

// modelParts returns the part of each owner, and how many boards each one has.
func modelParts(s api.PriceSheet, t api.PriceTariff, hours []int) (parts, boards []int) {
	parts, boards = make([]int, len(s.Offs)), make([]int, len(s.Offs))
	for i, b := range s.Boards {
		parts[b.Owner] += modelQuantity(t, b, hours[i])
		boards[b.Owner]++
	}
	return parts, boards
}

// modelShares returns the shares of all owners: each coin that is left goes to the one with the greatest rest of those who have not had one.
func modelShares(s api.PriceSheet, t api.PriceTariff, hours []int) []int {
	parts, boards := modelParts(s, t, hours)
	if total(parts) == 0 {
		parts = boards
	}
	paid, all := modelPaid(s, t, hours), total(parts)
	var shares, rests []int
	for _, part := range parts {
		shares = append(shares, modelRounded(paid*part, all, api.PriceDown))
		rests = append(rests, paid*part-all*modelRounded(paid*part, all, api.PriceDown))
	}
	for total(shares) < paid {
		next := slices.Index(rests, slices.Max(rests))
		shares[next]++
		rests[next] = -1
	}
	return shares
}

// alone returns a sheet with the boards of an owner alone, and the hours of these.
func alone(s api.PriceSheet, owner int, hours []int) (api.PriceSheet, []int) {
	own, its := s, []int{}
	own.Boards = nil
	for i, b := range s.Boards {
		if b.Owner == owner {
			own.Boards, its = append(own.Boards, b), append(its, hours[i])
		}
	}
	return own, its
}

// modelLoses returns, for each owner, by how much the share is more than what would be paid alone.
func modelLoses(s api.PriceSheet, t api.PriceTariff, hours []int) []int {
	var all []int
	for owner, share := range modelShares(s, t, hours) {
		own, its := alone(s, owner, hours)
		all = append(all, share-modelPaid(own, t, its))
	}
	return all
}

// modelOwes returns what each owner owes.
func modelOwes(s api.PriceSheet, t api.PriceTariff, hours []int) []int {
	var all []int
	for owner, share := range modelShares(s, t, hours) {
		all = append(all, share-modelRounded(share*s.Offs[owner], 100, api.PriceDown))
	}
	return all
}

// dice is a row of numbers that look random and are the same each time.
type dice uint64

// upTo returns a number from 0 to one that is given.
func (d *dice) upTo(most int) int {
	*d = *d*6364136223846793005 + 1442695040888963407
	return int(uint64(*d) >> 33 % uint64(most+1))
}

// within returns a number of a span.
func (d *dice) within(span api.Span) int { return span.Low + d.upTo(span.High-span.Low) }

// hours returns a list of hours of a sheet.
func (d *dice) hours(s api.PriceSheet) []int {
	var hours []int
	for _, b := range s.Boards {
		hours = append(hours, d.within(b.Hours))
	}
	return hours
}

// board returns a board of one of so many owners, with at most so much of each thing.
func (d *dice) board(owners, most int) api.PriceBoard {
	low := d.upTo(min(most, api.PriceHours))
	return api.PriceBoard{
		Letters: d.upTo(min(most, api.PriceLetters)), Feet: d.upTo(min(most, api.PriceFeet)),
		Hours: span(low, min(api.PriceHours, low+d.upTo(api.PriceWide))), Owner: d.upTo(owners - 1),
	}
}

// tariff returns a tariff with at most so many Coins.
func (d *dice) tariff(coins int) api.PriceTariff {
	return api.PriceTariff{
		Kind: api.PriceLetter + api.PriceKind(d.upTo(3)), Coins: d.upTo(coins), Units: 1 + d.upTo(api.PriceUnits-1),
		Rule: api.PriceDown + api.PriceRule(d.upTo(3)), Each: d.upTo(1) == 0,
	}
}

// sheet returns a sheet with so many tariffs; its boards have at most so much of each thing, and its tariffs at most so many Coins.
func (d *dice) sheet(tariffs, most, coins int) api.PriceSheet {
	var s api.PriceSheet
	for range 1 + d.upTo(api.PriceOwners-1) {
		s.Offs = append(s.Offs, d.upTo(100))
	}
	for range 1 + d.upTo(api.PriceBoards-1) {
		s.Boards = append(s.Boards, d.board(len(s.Offs), most))
	}
	for range tariffs {
		s.Tariffs = append(s.Tariffs, d.tariff(coins))
	}
	return s
}

// any returns a sheet of any size.
func (d *dice) any() api.PriceSheet {
	return d.sheet(1+d.upTo(api.PriceTariffs-1), 1<<d.upTo(6), 1<<d.upTo(8)+d.upTo(244))
}

// close returns a sheet with at least two tariffs, by which often about as much is paid.
func (d *dice) close() api.PriceSheet {
	s := d.sheet(2+d.upTo(1), 1+d.upTo(6), 1+d.upTo(12))
	switch d.upTo(3) {
	case 0:
		// they differ by the rule, or by what is rounded
		s.Tariffs[1] = s.Tariffs[0]
		s.Tariffs[1].Rule, s.Tariffs[1].Each = api.PriceDown+api.PriceRule(d.upTo(3)), d.upTo(1) == 0
	case 1:
		// they differ by a few Coins
		s.Tariffs[1] = s.Tariffs[0]
		s.Tariffs[1].Coins += d.upTo(2)
	}
	return s
}

// clone returns a sheet that shares no memory with another one.
func clone(s api.PriceSheet) api.PriceSheet {
	s.Offs, s.Boards, s.Tariffs = slices.Clone(s.Offs), slices.Clone(s.Boards), slices.Clone(s.Tariffs)
	return s
}

// with returns a sheet with a change.
func with(s api.PriceSheet, change func(*api.PriceSheet)) api.PriceSheet {
	s = clone(s)
	change(&s)
	return s
}

func sameSheet(a, b api.PriceSheet) bool {
	return slices.Equal(a.Offs, b.Offs) && slices.Equal(a.Boards, b.Boards) && slices.Equal(a.Tariffs, b.Tariffs)
}
