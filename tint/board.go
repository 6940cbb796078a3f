package tint

import "mahlstick/api"

// left returns how much of a pigment is left after some years, if so much of it fades in a year.
func left(old, years, fade int) int { return max(0, old-years*fade) }

// aim returns, for each pigment, the least and the greatest amount that the board of a sheet has.
func aim(s api.TintSheet) [3]api.Span {
	var amounts [3]api.Span
	for pigment, old := range s.Old {
		fade := s.Fade[pigment]
		amounts[pigment] = api.Span{Low: left(old, s.Years.High, fade.High), High: left(old, s.Years.Low, fade.Low)}
	}
	return amounts
}

// alone returns a span with one number.
func alone(n int) api.Span { return api.Span{Low: n, High: n} }

// allAlone returns a span for each of three numbers, with this one.
func allAlone(numbers [3]int) [3]api.Span {
	var spans [3]api.Span
	for i, n := range numbers {
		spans[i] = alone(n)
	}
	return spans
}

// known returns a sheet of which it is known that a truth is so: what surely matches then, does in this truth.
func known(s api.TintSheet, t api.TintTruth) api.TintSheet {
	s.Years, s.Fade, s.Tins = alone(t.Years), allAlone(t.Fade), nil
	for _, amounts := range t.Tins {
		s.Tins = append(s.Tins, api.TintTin{Pigments: allAlone(amounts)})
	}
	return s
}
