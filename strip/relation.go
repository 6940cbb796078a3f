package strip

import (
	"iter"
	"slices"

	"mahlstick/api"
	"mahlstick/picks"
	"mahlstick/sum"
)

// A relation is a board with the relation of its names.
type relation struct {
	api.StripBoard
	before [api.StripNames][api.StripNames]bool // whether one name comes before another one in each order that no spot contradicts
}

// relate returns a board with the relation of its names.
func relate(b api.StripBoard) relation {
	x := relation{StripBoard: b}
	for _, spot := range b.Spots {
		for i := range len(spot) - 1 {
			x.before[spot[i]][spot[i+1]] = true
		}
	}
	for middle := range b.Names {
		for one := range b.Names {
			for other := range b.Names {
				if x.before[one][middle] && x.before[middle][other] {
					x.before[one][other] = true
				}
			}
		}
	}
	return x
}

// clash is the panic of spots that contradict each other.
type clash struct{}

// mustAgree gives up if the spots contradict each other: then some name would come before itself.
func (x relation) mustAgree() {
	for name := range x.Names {
		if x.before[name][name] {
			panic(clash{})
		}
	}
}

// agree reports whether the spots do not contradict each other.
func (x relation) agree() (is bool) {
	defer func() {
		if _, contradict := recover().(clash); contradict {
			is = false
		}
	}()
	x.mustAgree()
	return true
}

// taken says of each name whether it is in the beginning of an order already.
type taken [api.StripNames]bool

// with returns the same, with some names more.
func (t taken) with(names ...int) taken {
	for _, name := range names {
		t[name] = true
	}
	return t
}

// mayFollow reports whether a name can come next in an order that no spot contradicts, after those that are taken.
func (x relation) mayFollow(have taken, name int) bool {
	for earlier := range x.Names {
		if x.before[earlier][name] && !have[earlier] {
			return false
		}
	}
	return !have[name]
}

// orders goes through all orders that no spot contradicts.
func (x relation) orders() iter.Seq[[]int] {
	return picks.Lists(x.Names, x.Names, func(order []int, name int) bool {
		return x.mayFollow(taken{}.with(order...), name)
	})
}

// count returns how many orders no spot contradicts.
func (x relation) count() int { return x.endings(map[taken]int{}, taken{}, x.Names) }

// endings returns in how many orders so many names can follow those that are taken already.
func (x relation) endings(known map[taken]int, have taken, left int) int {
	if left == 0 {
		return 1
	}
	count, found := known[have]
	if !found {
		var counts []int
		for name := range x.Names {
			if x.mayFollow(have, name) {
				counts = append(counts, x.endings(known, have.with(name), left-1))
			}
		}
		count = sum.Of(counts...)
		known[have] = count
	}
	return count
}

// left returns how many orders no spot contradicts if names are seen at a spot more.
func (x relation) left(spot ...int) int {
	more := x.StripBoard
	more.Spots = append(slices.Clone(x.Spots), spot)
	return relate(more).count()
}

// earliest returns how many names surely come before a name.
func (x relation) earliest(name int) int {
	place := 0
	for other := range x.Names {
		if x.before[other][name] {
			place++
		}
	}
	return place
}

// latest returns how many names may come before a name.
func (x relation) latest(name int) int {
	place := x.Names - 1
	for other := range x.Names {
		if x.before[name][other] {
			place--
		}
	}
	return place
}

// places returns the least and the greatest place of a name.
func (x relation) places(name int) api.Span {
	ends := [...]func(relation, int) int{relation.earliest, relation.latest}
	return api.Span{Low: ends[0](x, name), High: ends[1](x, name)}
}

// A pair is two names, and how many orders are left at most when it is known which one of both came before the other one.
type pair struct{ one, other, left int }

// pairs goes through all pairs of names, the lesser number first, in lexicographic order.
func (x relation) pairs() iter.Seq[pair] {
	return func(yield func(pair) bool) {
		for one := range x.Names {
			for other := one + 1; other < x.Names; other++ {
				if !yield(pair{one, other, max(x.left(one, other), x.left(other, one))}) {
					return
				}
			}
		}
	}
}

// owner returns the least number that a name can be given, if each name has a greater one than those that come before it.
func (x relation) owner(name int) int {
	least := 1
	for earlier := range x.Names {
		if x.before[earlier][name] {
			least = max(least, x.owner(earlier)+1)
		}
	}
	return least
}

// owners returns the least number of owners of which all names can be.
func (x relation) owners() int {
	count := 0
	for name := range x.Names {
		count = max(count, x.owner(name))
	}
	return count
}
