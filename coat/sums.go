package coat

import (
	"slices"

	"mahlstick/api"
	"mahlstick/sum"
)

// sums is a sheet with the sums of its spans.
type sums struct {
	api.CoatSheet
	lows  []int // the least sum of all days before a day, also of all before the day after the last one
	highs []int // the greatest one
}

// summed returns a sheet with the sums of its spans.
func summed(s api.CoatSheet) sums {
	x := sums{CoatSheet: s}
	var lows, highs []int
	for _, dry := range s.Dry {
		lows, highs = append(lows, dry.Low), append(highs, dry.High)
	}
	for day := range len(s.Dry) + 1 {
		x.lows = append(x.lows, sum.Of(lows[:day]...))
		x.highs = append(x.highs, sum.Of(highs[:day]...))
	}
	return x
}

// least returns by how much paint dries at least from a day up to the day before another one.
func (x sums) least(from, to int) int { return x.lows[to] - x.lows[from] }

// greatest returns by how much it dries at most.
func (x sums) greatest(from, to int) int { return x.highs[to] - x.highs[from] }

// deciding has, for each reason for which a coat fails, the sum by which it does.
type deciding [api.CoatPeels + 1]func(from, to int) int

// atWorst returns the sums by which a coat fails in some weather.
func (x sums) atWorst() deciding {
	return deciding{api.CoatEarly: x.least, api.CoatPeels: x.greatest}
}

// atBest returns the sums by which a coat fails in all weathers: each sum between the least and the greatest one is that of some weather.
func (x sums) atBest() deciding {
	return deciding{api.CoatEarly: x.greatest, api.CoatPeels: x.least}
}

// whyNot returns why a coat fails that is laid on a day, and dries up to the day before another one; 0 if it does not. Nothing is laid on the last coat, so it never peels.
func (x sums) whyNot(by deciding, coat, from, to int) api.CoatReason {
	switch {
	case by[api.CoatEarly](from, to) < x.Coats[coat].Need:
		return api.CoatEarly
	case !x.isLast(coat) && by[api.CoatPeels](from, to) > x.Coats[coat].Peel:
		return api.CoatPeels
	default:
		return 0
	}
}

// isLast reports whether a coat is the last one.
func (x sums) isLast(coat int) bool { return coat == len(x.Coats)-1 }

// failure is the panic of a coat that fails.
type failure struct {
	coat   int
	reason api.CoatReason
}

// mustHold gives up if a coat fails that is laid on a day, and dries up to the day before another one.
func (x sums) mustHold(by deciding, coat, from, to int) {
	if reason := x.whyNot(by, coat, from, to); reason != 0 {
		panic(failure{coat, reason})
	}
}

// firstFailure returns the first coat that fails with a plan, and why; or false if none does.
func (x sums) firstFailure(by deciding, plan []int) (first failure, fails bool) {
	defer func() {
		if found, is := recover().(failure); is {
			first, fails = found, true
		}
	}()
	days := append(slices.Clone(plan), len(x.Dry))
	for coat := range plan {
		x.mustHold(by, coat, days[coat], days[coat+1])
	}
	return failure{}, false
}

// holds reports whether a plan holds by some sums.
func (x sums) holds(by deciding, plan []int) bool {
	_, fails := x.firstFailure(by, plan)
	return !fails
}

// surelyHolds reports whether a plan of a sheet holds in all weathers.
func surelyHolds(s api.CoatSheet, plan []int) bool {
	x := summed(s)
	return x.holds(x.atWorst(), plan)
}

// foreseen returns a sheet of which it is known by how much paint dries on a day.
func foreseen(s api.CoatSheet, day, dry int) api.CoatSheet {
	s.Dry = slices.Clone(s.Dry)
	s.Dry[day] = api.Span{Low: dry, High: dry}
	return s
}

// firstProof returns the first weather in which a plan does not hold that does not surely hold.
func firstProof(s api.CoatSheet, plan []int) []int {
	var weather []int
days:
	for day, span := range s.Dry {
		for more := range span.High - span.Low + 1 {
			known := foreseen(s, day, span.Low+more)
			if !surelyHolds(known, plan) {
				s, weather = known, append(weather, span.Low+more)
				continue days
			}
		}
	}
	return weather
}
