package letter

import (
	"strings"

	"mahlstick/api"
	"mahlstick/lines"
)

// modulo is what the check of a text is the rest modulo of.
const modulo = 173

// digits is how many digits a number of a text has at most.
const digits = 3

// The words that say whether a word of the name is free.
const (
	yes = "yes"
	no  = "no"
)

// The numbers of the words with which lines begin, in the order of the lines.
const (
	frontWord = iota
	spacesWord
	signWord
	pairWord
	wordWord
)

// names are the words with which lines begin.
var names = [...]string{frontWord: "front", spacesWord: "spaces", signWord: "sign", pairWord: "pair", wordWord: "word"}

// follow is how many words follow the first one of a line.
var follow = [...]int{frontWord: 2, spacesWord: 5, signWord: 1, pairWord: 4, wordWord: 3}

// A line is one of a text.
type line interface{ text() string }

type frontLine struct{ wide, rows int }

type spacesLine struct {
	other  api.Span
	gap    api.Span
	hyphen int
}

type signLine struct{ width int }

type pairLine struct{ pair api.LetterPair }

type wordLine struct{ word api.LetterWord }

func (x frontLine) text() string {
	return names[frontWord] + " " + lines.Join(" ", x.wide, x.rows)
}

func (x spacesLine) text() string {
	return names[spacesWord] + " " + lines.Join(" ", x.other.Low, x.other.High, x.gap.Low, x.gap.High, x.hyphen)
}

func (x signLine) text() string {
	return names[signWord] + " " + lines.Join(" ", x.width)
}

func (x pairLine) text() string {
	return names[pairWord] + " " + lines.Join(" ", x.pair.Left, x.pair.Right, x.pair.Space.Low, x.pair.Space.High)
}

func (x wordLine) text() string {
	free := no
	if x.word.Free {
		free = yes
	}
	return strings.Join([]string{names[wordWord], free, lines.List(x.word.Signs), lines.List(x.word.Cuts)}, " ")
}

// write returns the text of a sheet.
func write(s api.LetterSheet) string {
	all := []line{frontLine{s.Wide, s.Rows}, spacesLine{s.Other, s.Gap, s.Hyphen}}
	for _, width := range s.Widths {
		all = append(all, signLine{width})
	}
	for _, pair := range s.Pairs {
		all = append(all, pairLine{pair})
	}
	for _, word := range s.Words {
		all = append(all, wordLine{word})
	}
	var body []string
	for _, x := range all {
		body = append(body, x.text())
	}
	return lines.Seal(body, modulo)
}

// noText is the panic of a string that is no text.
type noText struct{}

// parse returns the sheet of a text, which may not be as defined, or false if the string is no text.
func parse(text string) (s api.LetterSheet, ok bool) {
	defer func() {
		if _, none := recover().(noText); none {
			s, ok = api.LetterSheet{}, false
		}
	}()
	body, sealed := lines.Open(text, modulo)
	must(sealed && len(body) >= signWord)
	last := frontWord
	for i, next := range body {
		words := strings.Split(next, " ")
		word := mustName(words[0])
		must(mayFollow(last, word, i))
		s = added(s, mustLine(word, words[1:]))
		last = word
	}
	return s, true
}

// must gives up if something is not so that must be so in a text.
func must(is bool) {
	if !is {
		panic(noText{})
	}
}

// mustName returns the number of a word with which lines begin.
func mustName(name string) int {
	for word := range len(names) {
		if names[word] == name {
			return word
		}
	}
	panic(noText{})
}

// mayFollow reports whether a line with a word can be the line with a number, after one with another word: the lines front and spaces are there once, all others any number of times.
func mayFollow(last, word, number int) bool {
	if number < signWord {
		return word == number
	}
	return word >= signWord && word >= last
}

// mustLine returns the line that has a word and some others after it.
func mustLine(word int, others []string) line {
	must(len(others) == follow[word])
	if word == wordWord {
		return wordLine{api.LetterWord{Free: mustFree(others[0]), Signs: mustList(others[1]), Cuts: mustList(others[2])}}
	}
	n := mustNumbers(others)
	switch word {
	case frontWord:
		return frontLine{n[0], n[1]}
	case spacesWord:
		return spacesLine{api.Span{Low: n[0], High: n[1]}, api.Span{Low: n[2], High: n[3]}, n[4]}
	case signWord:
		return signLine{n[0]}
	default:
		return pairLine{api.LetterPair{Left: n[0], Right: n[1], Space: api.Span{Low: n[2], High: n[3]}}}
	}
}

// mustFree returns what yes or no says.
func mustFree(word string) bool {
	must(word == yes || word == no)
	return word == yes
}

// mustList returns the list that a word is.
func mustList(word string) []int {
	list, ok := lines.Numbers(word, digits)
	must(ok)
	return list
}

// mustNumbers returns the numbers that some words are.
func mustNumbers(words []string) []int {
	var numbers []int
	for _, word := range words {
		number, ok := lines.Number(word, digits)
		must(ok)
		numbers = append(numbers, number)
	}
	return numbers
}

// added returns a sheet with what one line more says.
func added(s api.LetterSheet, x line) api.LetterSheet {
	switch x := x.(type) {
	case frontLine:
		s.Wide, s.Rows = x.wide, x.rows
	case spacesLine:
		s.Other, s.Gap, s.Hyphen = x.other, x.gap, x.hyphen
	case signLine:
		s.Widths = append(s.Widths, x.width)
	case pairLine:
		s.Pairs = append(s.Pairs, x.pair)
	case wordLine:
		s.Words = append(s.Words, x.word)
	}
	return s
}
