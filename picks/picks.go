// Package picks goes through all that can be picked from some things; the layers call it.
package picks

import (
	"iter"
	"slices"
)

// Of goes through all lists of some numbers of a list, each in the order that they have there; if they increase there, in lexicographic order.
func Of(numbers []int) iter.Seq[[]int] {
	return func(yield func([]int) bool) {
		var extend func(picked []int, from int) bool
		extend = func(picked []int, from int) bool {
			if !yield(picked) {
				return false
			}
			for i := from; i < len(numbers); i++ {
				if !extend(append(slices.Clone(picked), numbers[i]), i+1) {
					return false
				}
			}
			return true
		}
		extend(nil, 0)
	}
}

// OfFirst goes through all lists of some of the first so many numbers from 0 on, each in increasing order, in lexicographic order.
func OfFirst(count int) iter.Seq[[]int] {
	var numbers []int
	for n := range count {
		numbers = append(numbers, n)
	}
	return Of(numbers)
}

// Lists goes through all lists of so many of the first limit numbers from 0 on, in which each number may follow those before it; in lexicographic order.
func Lists(length, limit int, may func(before []int, next int) bool) iter.Seq[[]int] {
	return func(yield func([]int) bool) {
		var extend func(list []int) bool
		extend = func(list []int) bool {
			if len(list) == length {
				return yield(list)
			}
			for next := range limit {
				if may(list, next) && !extend(append(slices.Clone(list), next)) {
					return false
				}
			}
			return true
		}
		extend(nil)
	}
}

// Where goes through those of some things of which something is so, in their order.
func Where[T any](all iter.Seq[T], is func(T) bool) iter.Seq[T] {
	return func(yield func(T) bool) {
		for x := range all {
			if is(x) && !yield(x) {
				return
			}
		}
	}
}

// With returns those things of a list that have some numbers there, in the order of these.
func With[T any](all []T, numbers []int) []T {
	var picked []T
	for _, n := range numbers {
		picked = append(picked, all[n])
	}
	return picked
}

// Without returns those things of a list that do not have some numbers there, in their order.
func Without[T any](all []T, numbers []int) []T {
	var kept []T
	for n, x := range all {
		if !slices.Contains(numbers, n) {
			kept = append(kept, x)
		}
	}
	return kept
}
