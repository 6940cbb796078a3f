package price

import "mahlstick/api"

// An exact price is a number of coins, divided by a number of units.
type exact struct{ coins, units int }

// down returns the next whole number that is not greater.
func (x exact) down() int { return x.coins / x.units }

// up returns the next whole number that is not less.
func (x exact) up() int { return (x.coins + x.units - 1) / x.units }

// near returns the nearest whole number, of two as near the greater one.
func (x exact) near() int { return (2*x.coins + x.units) / (2 * x.units) }

// even returns the nearest whole number, of two as near the even one.
func (x exact) even() int {
	near := x.near()
	if half := 2*(near*x.units-x.coins) == x.units; half && near%2 == 1 {
		return near - 1
	}
	return near
}

// by returns the exact price as a rule rounds it.
func (x exact) by(rule api.PriceRule) int {
	// in the order of the rules
	rules := [...]func() int{x.down, x.up, x.near, x.even}
	return rules[rule-api.PriceDown]()
}
