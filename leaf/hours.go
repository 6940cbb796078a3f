package leaf

import (
	"iter"
	"slices"

	"mahlstick/api"
	"mahlstick/limits"
	"mahlstick/picks"
)

// surely returns the hours at which a piece of a ground can surely be laid.
func surely(g api.LeafGround) api.Span { return api.Span{Low: g.Ready.High, High: g.Last.Low} }

// perhaps returns the hours at which a piece of a ground may be laid.
func perhaps(g api.LeafGround) api.Span { return api.Span{Low: g.Ready.Low, High: g.Last.High} }

// hoursOf returns the hours that each piece of a job can have, by those that a piece of its ground has.
func hoursOf(j api.LeafJob, at func(api.LeafGround) api.Span) []api.Span {
	var all []api.Span
	for _, piece := range j.Pieces {
		all = append(all, at(j.Grounds[piece.Ground]))
	}
	return all
}

// plans goes through all lists with an hour for each of some pieces, no hour twice, each one of the hours that its piece can have; in lexicographic order.
func plans(hours []api.Span) iter.Seq[[]int] {
	return picks.Lists(len(hours), api.LeafHours+1, func(plan []int, hour int) bool {
		can := hours[len(plan)]
		return limits.IsFrom(can.Low, hour, can.High) && !slices.Contains(plan, hour)
	})
}

// hasPlan reports whether pieces that can have some hours can have one each, none twice.
func hasPlan(hours []api.Span) bool {
	for range plans(hours) {
		return true
	}
	return false
}

// fixed returns the hours that pieces can have, if a piece can have but one.
func fixed(hours []api.Span, piece, hour int) []api.Span {
	hours = slices.Clone(hours)
	hours[piece] = api.Span{Low: hour, High: hour}
	return hours
}

// enough goes through all lists of pieces without which all others can have one hour each, none twice; in lexicographic order.
func enough(hours []api.Span) iter.Seq[[]int] {
	return picks.Where(picks.OfFirst(len(hours)), func(left []int) bool {
		return hasPlan(picks.Without(hours, left))
	})
}

// A proof is hours, and more pieces than these that can have no others.
type proof struct {
	api.Span
	pieces []int
}

// proofs goes through all proofs that there is no plan of pieces that can have some hours, by the first of their hours.
func proofs(hours []api.Span) iter.Seq[proof] {
	return func(yield func(proof) bool) {
		for low := range api.LeafHours + 1 {
			for more := range api.LeafHours - low + 1 {
				span := api.Span{Low: low, High: low + more}
				pieces := bound(hours, span)
				if len(pieces) > length(span) && !yield(proof{span, pieces}) {
					return
				}
			}
		}
	}
}

// bound returns all pieces that can have no hours but those of a span.
func bound(hours []api.Span, to api.Span) []int {
	var pieces []int
	for piece, can := range hours {
		if limits.IsSpan(to.Low, can, to.High) {
			pieces = append(pieces, piece)
		}
	}
	return pieces
}

// length returns how many hours a span has.
func length(hours api.Span) int { return hours.High - hours.Low + 1 }
