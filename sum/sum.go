// Package sum adds numbers; the layers call it.
package sum

// Of returns the sum of some numbers.
func Of(numbers ...int) int {
	total := 0
	for _, n := range numbers {
		total += n
	}
	return total
}
