// Package lines has what the texts of all layers have in common: lines of words with single blanks between them, numbers in decimal, and a check of the lines in the last one.
package lines

import (
	"strconv"
	"strings"
)

// Seal returns a text with some lines, and a last line that has their check, the rest of a sum modulo a number.
func Seal(body []string, modulo int) string {
	var text strings.Builder
	for _, line := range body {
		text.WriteString(line + "\n")
	}
	rest := strconv.Itoa(sum(body) % modulo)
	text.WriteString("end " + strings.Repeat("0", max(0, 3-len(rest))) + rest + "\n")
	return text.String()
}

// sum returns the sum of all bytes of some lines, each times its place in its line and the number of its line.
func sum(body []string) int {
	total := 0
	for i, line := range body {
		for j := range len(line) {
			total += int(line[j]) * (j + 1) * (i + 1)
		}
	}
	return total
}

// Open returns the lines of a text before its last one, or false if the last one does not have their check.
func Open(text string, modulo int) ([]string, bool) {
	all := strings.Split(text, "\n")
	if len(all) < 2 {
		return nil, false
	}
	// What follows the last line feed is no line, and must be empty: else the text that is sealed anew is another one.
	body := all[:len(all)-2]
	if text != Seal(body, modulo) {
		return nil, false
	}
	return body, true
}

// Number returns the number that a word is, or false if it is none in decimal, without a sign and without leading zeros, of at most so many digits.
func Number(word string, digits int) (int, bool) {
	if word == "" || len(word) > digits || len(word) > 1 && word[0] == '0' {
		return 0, false
	}
	number := 0
	for _, digit := range word {
		if digit < '0' || digit > '9' {
			return 0, false
		}
		number = number*10 + int(digit-'0')
	}
	return number, true
}

// Join returns numbers in decimal with a string between two of them.
func Join(between string, numbers ...int) string {
	words := make([]string, len(numbers))
	for i, number := range numbers {
		words[i] = strconv.Itoa(number)
	}
	return strings.Join(words, between)
}

// none is the word of a list without numbers.
const none = "-"

// List returns the word of a list of numbers.
func List(numbers []int) string {
	if len(numbers) == 0 {
		return none
	}
	return Join(",", numbers...)
}

// Numbers returns the list of numbers that a word is, or false if it is none of numbers of at most so many digits.
func Numbers(word string, digits int) ([]int, bool) {
	if word == none {
		return nil, true
	}
	var numbers []int
	for _, part := range strings.Split(word, ",") {
		number, ok := Number(part, digits)
		if !ok {
			return nil, false
		}
		numbers = append(numbers, number)
	}
	return numbers, true
}
