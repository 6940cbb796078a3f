// Package lines has what the texts of all layers have in common: lines of some kinds, of words with single blanks between them, numbers in decimal, and a check of the lines in the last one.
package lines

import (
	"slices"
	"strconv"
	"strings"
)

// Any is how many words follow the first one of a line if these can be any number.
const Any = -1

// A Kind is one of lines: the word with which they begin, and how many others follow it.
type Kind struct {
	Word   string
	Others int
}

// has reports whether a line with some words is of the kind.
func (k Kind) has(words []string) bool {
	return words[0] == k.Word && (k.Others == Any || k.Others == len(words)-1)
}

// Line returns the line of a kind with some words after the first one; a word may be several, with blanks between them.
func (k Kind) Line(others ...string) string {
	return strings.Join(append([]string{k.Word}, others...), " ")
}

// Seal returns a text with some lines, and a last line that has their check, the rest of a sum modulo a number.
func Seal(body []string, modulo int) string {
	var text strings.Builder
	for _, line := range body {
		text.WriteString(line + "\n")
	}
	rest := strconv.Itoa(sum(body) % modulo)
	text.WriteString("end " + strings.Repeat("0", max(0, 3-len(rest))) + rest + "\n")
	return text.String()
}

// sum returns the sum of all bytes of some lines, each times its place in its line and the number of its line.
func sum(body []string) int {
	total := 0
	for i, line := range body {
		for j := range len(line) {
			total += int(line[j]) * (j + 1) * (i + 1)
		}
	}
	return total
}

// Open returns the lines of a text before its last one, or false if the last one does not have their check.
func Open(text string, modulo int) ([]string, bool) {
	all := strings.Split(text, "\n")
	if len(all) < 2 {
		return nil, false
	}
	// What follows the last line feed is no line, and must be empty: else the text that is sealed anew is another one.
	body := all[:len(all)-2]
	if text != Seal(body, modulo) {
		return nil, false
	}
	return body, true
}

// noText is the panic of a string that is no text.
type noText struct{}

// Must gives up the call of Parse within which it is called if something is not so that must be so in a text.
func Must(is bool) {
	if !is {
		panic(noText{})
	}
}

// Parse calls a function with the kind of each line of a text before its last one, and with the words that follow the first one of the line. It returns false if the string is no text: if the last line does not have the check of the others, if one of these is of no kind, or if the function gave up.
func Parse(text string, modulo int, kinds []Kind, each func(kind int, others []string)) (ok bool) {
	defer func() {
		if _, none := recover().(noText); none {
			ok = false
		}
	}()
	body, sealed := Open(text, modulo)
	Must(sealed)
	for _, line := range body {
		words := strings.Split(line, " ")
		kind := slices.IndexFunc(kinds, func(k Kind) bool { return k.has(words) })
		Must(kind >= 0)
		each(kind, words[1:])
	}
	return true
}

// Number returns the number that a word is, or false if it is none in decimal, without a sign and without leading zeros, of at most so many digits.
func Number(word string, digits int) (int, bool) {
	if word == "" || len(word) > digits || len(word) > 1 && word[0] == '0' {
		return 0, false
	}
	number := 0
	for _, digit := range word {
		if digit < '0' || digit > '9' {
			return 0, false
		}
		number = number*10 + int(digit-'0')
	}
	return number, true
}

// MustNumbers returns the numbers that some words are, each of at most so many digits; it gives up as Must does if one is none.
func MustNumbers(words []string, digits int) []int {
	var numbers []int
	for _, word := range words {
		number, ok := Number(word, digits)
		Must(ok)
		numbers = append(numbers, number)
	}
	return numbers
}

// Join returns numbers in decimal with a string between two of them.
func Join(between string, numbers ...int) string {
	words := make([]string, len(numbers))
	for i, number := range numbers {
		words[i] = strconv.Itoa(number)
	}
	return strings.Join(words, between)
}

// none is the word of a list without numbers.
const none = "-"

// List returns the word of a list of numbers.
func List(numbers []int) string {
	if len(numbers) == 0 {
		return none
	}
	return Join(",", numbers...)
}

// Numbers returns the list of numbers that a word is, or false if it is none of numbers of at most so many digits.
func Numbers(word string, digits int) ([]int, bool) {
	if word == none {
		return nil, true
	}
	var numbers []int
	for _, part := range strings.Split(word, ",") {
		number, ok := Number(part, digits)
		if !ok {
			return nil, false
		}
		numbers = append(numbers, number)
	}
	return numbers, true
}

// MustList returns the list of numbers that a word is, each of at most so many digits; it gives up as Must does if it is none.
func MustList(word string, digits int) []int {
	list, ok := Numbers(word, digits)
	Must(ok)
	return list
}

// The words that say whether something is so.
const (
	yes = "yes"
	no  = "no"
)

// YesNo returns the word that says whether something is so.
func YesNo(is bool) string {
	if is {
		return yes
	}
	return no
}

// MustYesNo returns whether a word says that something is so; it gives up as Must does if it is no such word.
func MustYesNo(word string) bool {
	Must(word == yes || word == no)
	return word == yes
}
