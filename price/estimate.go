package price

import (
	"iter"

	"mahlstick/api"
	"mahlstick/limits"
	"mahlstick/sum"
)

// A kind of tariffs is what is paid for by these.
type kind interface {
	// quantity returns how much of it a board has, if it takes so many hours.
	quantity(b api.PriceBoard, hours int) int
}

type byLetter struct{}

type byFoot struct{}

type byHour struct{}

type byFriend struct{}

func (byLetter) quantity(b api.PriceBoard, hours int) int { return b.Letters }
func (byFoot) quantity(b api.PriceBoard, hours int) int   { return b.Feet }
func (byHour) quantity(b api.PriceBoard, hours int) int   { return hours }
func (byFriend) quantity(b api.PriceBoard, hours int) int { return 1 }

// kindOf returns the kind of tariffs that has a number.
func kindOf(number api.PriceKind) kind {
	// in the order of the numbers
	return [...]kind{byLetter{}, byFoot{}, byHour{}, byFriend{}}[number-api.PriceLetter]
}

// A bill is a tariff, and how many hours are paid by it, or how much of what else it is for.
type bill struct {
	tariff   api.PriceTariff
	quantity int
}

// An estimate is a sheet with a tariff and hours.
type estimate struct {
	api.PriceSheet
	tariff api.PriceTariff
	hours  []int
	known  map[bill]int // how much is paid, as far as it was asked for
}

// estimateOf returns a sheet with one of its tariffs, and with hours.
func estimateOf(s api.PriceSheet, tariff int, hours []int) estimate {
	return estimate{s, s.Tariffs[tariff], hours, map[bill]int{}}
}

// by returns the estimate with another tariff.
func (x estimate) by(tariff api.PriceTariff) estimate {
	x.tariff = tariff
	return x
}

// with returns the estimate with other hours.
func (x estimate) with(hours []int) estimate {
	x.hours = hours
	return x
}

// price returns the rounded exact price of a quantity.
func (x estimate) price(quantity int) int {
	key := bill{x.tariff, quantity}
	price, found := x.known[key]
	if !found {
		price = exact{quantity * x.tariff.Coins, x.tariff.Units}.by(x.tariff.Rule)
		x.known[key] = price
	}
	return price
}

// quantities returns the quantity of each board.
func (x estimate) quantities() []int {
	its := kindOf(x.tariff.Kind)
	var all []int
	for board := range len(x.Boards) {
		all = append(all, its.quantity(x.Boards[board], x.hours[board]))
	}
	return all
}

// prices returns the price of each board.
func (x estimate) prices() []int {
	var all []int
	for _, quantity := range x.quantities() {
		all = append(all, x.price(quantity))
	}
	return all
}

// paid returns what is paid.
func (x estimate) paid() int {
	if x.tariff.Each {
		return sum.Of(x.prices()...)
	}
	return x.price(sum.Of(x.quantities()...))
}

// paidByRules returns what would be paid by each rule.
func (x estimate) paidByRules() []int {
	var all []int
	for rule := api.PriceDown; rule <= api.PriceEven; rule++ {
		tariff := x.tariff
		tariff.Rule = rule
		all = append(all, x.by(tariff).paid())
	}
	return all
}

// paidFor returns what would be paid if the tariff had so many Coins.
func (x estimate) paidFor(coins int) int {
	tariff := x.tariff
	tariff.Coins = coins
	return x.by(tariff).paid()
}

// nearest returns the Coins for which so much would be paid, and which differ least from those of the tariff; or false if there are none.
func (x estimate) nearest(paid int) (int, bool) {
	own := x.tariff.Coins
	nearest, found := 0, false
search:
	for far := range api.PriceCoins + 1 {
		for _, coins := range [...]int{own - far, own + far} {
			if limits.IsFrom(0, coins, api.PriceCoins) && x.paidFor(coins) == paid {
				nearest, found = coins, true
				break search
			}
		}
	}
	return nearest, found
}

// An offer is the number of a tariff, and what is paid by it.
type offer struct{ tariff, paid int }

// offers goes through what is paid by each tariff of a sheet with some hours, in order.
func offers(s api.PriceSheet, hours []int) iter.Seq[offer] {
	return func(yield func(offer) bool) {
		for tariff := range s.Tariffs {
			if !yield(offer{tariff, estimateOf(s, tariff, hours).paid()}) {
				return
			}
		}
	}
}
