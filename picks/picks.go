// Package picks goes through all that can be picked from some numbers; the layers call it.
package picks

import (
	"iter"
	"slices"
)

// Of goes through all lists of some numbers of a list, each in the order that they have there; if they increase there, in lexicographic order.
func Of(numbers []int) iter.Seq[[]int] {
	return func(yield func([]int) bool) {
		var extend func(picked []int, from int) bool
		extend = func(picked []int, from int) bool {
			if !yield(picked) {
				return false
			}
			for i := from; i < len(numbers); i++ {
				if !extend(append(slices.Clone(picked), numbers[i]), i+1) {
					return false
				}
			}
			return true
		}
		extend(nil, 0)
	}
}
