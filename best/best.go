// Package best finds the best of some things; the layers call it.
package best

import "iter"

// Of returns the first of some things than which no other one is better, or false if there are none.
func Of[T any](all iter.Seq[T], better func(a, b T) bool) (T, bool) {
	var result T
	found := false
	for x := range all {
		if !found || better(x, result) {
			result, found = x, true
		}
	}
	return result, found
}
