package tint

import (
	"mahlstick/api"
	"mahlstick/sum"
)

// A mixed sheet is one with a mixture.
type mixed struct {
	api.TintSheet
	mix []int
}

// parts returns how many parts there are together.
func (x mixed) parts() int { return sum.Of(x.mix...) }

// tins returns the numbers of the tins of which there are parts.
func (x mixed) tins() []int {
	var its []int
	for tin, parts := range x.mix {
		if parts > 0 {
			its = append(its, tin)
		}
	}
	return its
}

// least returns how much all parts have of a pigment at least.
func (x mixed) least(pigment int) int {
	total := 0
	for tin, parts := range x.mix {
		total += parts * x.Tins[tin].Pigments[pigment].Low
	}
	return total
}

// greatest returns how much they have of it at most.
func (x mixed) greatest(pigment int) int {
	total := 0
	for tin, parts := range x.mix {
		total += parts * x.Tins[tin].Pigments[pigment].High
	}
	return total
}

// sums returns, for each pigment, how much all parts have of it at least and at most.
func (x mixed) sums() [3]api.Span {
	ends := [...]func(pigment int) int{x.least, x.greatest}
	var all [3]api.Span
	for pigment := range all {
		all[pigment] = api.Span{Low: ends[0](pigment), High: ends[1](pigment)}
	}
	return all
}

// farOffIn returns how far off the mixture can be in a pigment.
func (x mixed) farOffIn(pigment int) int {
	has, board, parts := x.sums()[pigment], aim(x.TintSheet)[pigment], x.parts()
	most := max(has.High-parts*board.Low, parts*board.High-has.Low)
	// rounded up: what is left over after a division is too much for one less
	return (most + parts - 1) / parts
}

// farOff returns how far off the mixture can be.
func (x mixed) farOff() int {
	most := 0
	for pigment := range x.Old {
		most = max(most, x.farOffIn(pigment))
	}
	return most
}

// mismatch is the panic of a pigment that does not match.
type mismatch struct{}

// mustMatch gives up if a pigment does not match in some truth.
func (x mixed) mustMatch(pigment int) {
	if x.farOffIn(pigment) > x.Off {
		panic(mismatch{})
	}
}

// surelyMatches reports whether the mixture matches in all truths.
func (x mixed) surelyMatches() (is bool) {
	defer func() {
		if _, unlike := recover().(mismatch); unlike {
			is = false
		}
	}()
	for pigment := range x.Old {
		x.mustMatch(pigment)
	}
	return true
}

// fading is that of a pigment in some years.
type fading struct{ pigment, years int }

// matching returns whether pigments can match after some years.
func (x mixed) matching() map[fading]bool {
	can := map[fading]bool{}
	for pigment, has := range x.sums() {
		for years := x.Years.Low; years <= x.Years.High; years++ {
			can[fading{pigment, years}] = x.canMatchAfter(years, pigment, has)
		}
	}
	return can
}

// canMatchAfter reports whether a pigment of which all parts have so much can match after some years.
func (x mixed) canMatchAfter(years, pigment int, has api.Span) bool {
	parts := x.parts()
	for fade := x.Fade[pigment].Low; fade <= x.Fade[pigment].High; fade++ {
		board := parts * left(x.Old[pigment], years, fade)
		// Not each sum between the bounds can be, but no two that follow each other are further apart than the number of parts, and those that would match reach at least twice as far: no step leads past all of them.
		if board-parts*x.Off <= has.High && has.Low <= board+parts*x.Off {
			return true
		}
	}
	return false
}

// years returns all numbers of years after which the mixture can match, in increasing order.
func (x mixed) years() []int {
	var all []int
	can := x.matching()
search:
	for years := x.Years.Low; years <= x.Years.High; years++ {
		for pigment := range x.Old {
			if !can[fading{pigment, years}] {
				continue search
			}
		}
		all = append(all, years)
	}
	return all
}

// canMatch reports whether the mixture matches in some truth.
func (x mixed) canMatch() bool { return len(x.years()) > 0 }
