package price

import (
	"slices"

	"mahlstick/sum"
)

// of returns the estimate for the boards of an owner alone.
func (x estimate) of(owner int) estimate {
	own := x
	own.Boards, own.hours = nil, nil
	for board, hours := range x.hours {
		if x.Boards[board].Owner == owner {
			own.Boards, own.hours = append(own.Boards, x.Boards[board]), append(own.hours, hours)
		}
	}
	return own
}

// weights returns by what the coins are shared: the part of each owner, or, if all parts are 0, the number of boards.
func (x estimate) weights() []int {
	var parts, boards []int
	for owner := range x.Offs {
		own := x.of(owner)
		parts, boards = append(parts, sum.Of(own.quantities()...)), append(boards, len(own.Boards))
	}
	if sum.Of(parts...) == 0 {
		return boards
	}
	return parts
}

// shares returns the share of each owner.
func (x estimate) shares() []int {
	paid, weights := x.paid(), x.weights()
	all := sum.Of(weights...)
	var shares, rests, owners []int
	for owner, weight := range weights {
		shares, rests, owners = append(shares, paid*weight/all), append(rests, paid*weight%all), append(owners, owner)
	}
	slices.SortStableFunc(owners, func(a, b int) int { return rests[b] - rests[a] })
	left := paid - sum.Of(shares...)
	for _, owner := range owners[:left] {
		shares[owner]++
	}
	return shares
}

// losses returns, for each owner, by how much the share is more than what would be paid alone.
func (x estimate) losses() []int {
	var losses []int
	for owner, share := range x.shares() {
		losses = append(losses, share-x.of(owner).paid())
	}
	return losses
}

// owed returns what each owner owes.
func (x estimate) owed() []int {
	var owed []int
	for owner, share := range x.shares() {
		owed = append(owed, share-share*x.Offs[owner]/hundred)
	}
	return owed
}
