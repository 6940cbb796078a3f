package letter

import (
	"mahlstick/api"
	"mahlstick/lines"
)

// modulo is what the check of a text is the rest modulo of.
const modulo = 173

// digits is how many digits a number of a text has at most.
const digits = 3

// The numbers of the words with which lines begin, in the order of the lines; before the first line there is no word.
const (
	noWord = iota - 1
	frontWord
	spacesWord
	signWord
	pairWord
	wordWord
)

// kinds returns what lines there are, by the numbers of their words.
func kinds() []lines.Kind {
	return []lines.Kind{
		frontWord:  {Word: "front", Others: 2},
		spacesWord: {Word: "spaces", Others: 5},
		signWord:   {Word: "sign", Others: 1},
		pairWord:   {Word: "pair", Others: 4},
		wordWord:   {Word: "word", Others: 3},
	}
}

// A line is one of a text.
type line interface{ text() string }

type frontLine struct{ wide, rows int }

type spacesLine struct {
	other  api.Span
	gap    api.Span
	hyphen int
}

type signLine struct{ width int }

type pairLine struct{ pair api.LetterPair }

type wordLine struct{ word api.LetterWord }

func (x frontLine) text() string {
	return kinds()[frontWord].Line(lines.Join(" ", x.wide, x.rows))
}

func (x spacesLine) text() string {
	return kinds()[spacesWord].Line(lines.Join(" ", x.other.Low, x.other.High, x.gap.Low, x.gap.High, x.hyphen))
}

func (x signLine) text() string {
	return kinds()[signWord].Line(lines.Join(" ", x.width))
}

func (x pairLine) text() string {
	return kinds()[pairWord].Line(lines.Join(" ", x.pair.Left, x.pair.Right, x.pair.Space.Low, x.pair.Space.High))
}

func (x wordLine) text() string {
	return kinds()[wordWord].Line(lines.YesNo(x.word.Free), lines.List(x.word.Signs), lines.List(x.word.Cuts))
}

// write returns the text of a sheet.
func write(s api.LetterSheet) string {
	all := []line{frontLine{s.Wide, s.Rows}, spacesLine{s.Other, s.Gap, s.Hyphen}}
	for _, width := range s.Widths {
		all = append(all, signLine{width})
	}
	for _, pair := range s.Pairs {
		all = append(all, pairLine{pair})
	}
	for _, word := range s.Words {
		all = append(all, wordLine{word})
	}
	var body []string
	for _, x := range all {
		body = append(body, x.text())
	}
	return lines.Seal(body, modulo)
}

// parse returns the sheet of a text, which may not be as defined, or false if the string is no text.
func parse(text string) (api.LetterSheet, bool) {
	var s api.LetterSheet
	last := noWord
	ok := lines.Parse(text, modulo, kinds(), func(word int, others []string) {
		lines.Must(mayFollow(last, word))
		s = added(s, mustLine(word, others))
		last = word
	})
	if !ok || last < spacesWord {
		return api.LetterSheet{}, false
	}
	return s, true
}

// mayFollow reports whether a line with a word can follow one with another word: the lines front and spaces are there once, all others any number of times.
func mayFollow(last, word int) bool {
	if word <= spacesWord {
		return word == last+1
	}
	return last >= spacesWord && word >= last
}

// mustLine returns the line that has a word and some others after it.
func mustLine(word int, others []string) line {
	if word == wordWord {
		return wordLine{api.LetterWord{Free: lines.MustYesNo(others[0]), Signs: lines.MustList(others[1], digits), Cuts: lines.MustList(others[2], digits)}}
	}
	n := lines.MustNumbers(others, digits)
	switch word {
	case frontWord:
		return frontLine{n[0], n[1]}
	case spacesWord:
		return spacesLine{api.Span{Low: n[0], High: n[1]}, api.Span{Low: n[2], High: n[3]}, n[4]}
	case signWord:
		return signLine{n[0]}
	default:
		return pairLine{api.LetterPair{Left: n[0], Right: n[1], Space: api.Span{Low: n[2], High: n[3]}}}
	}
}

// added returns a sheet with what one line more says.
func added(s api.LetterSheet, x line) api.LetterSheet {
	switch x := x.(type) {
	case frontLine:
		s.Wide, s.Rows = x.wide, x.rows
	case spacesLine:
		s.Other, s.Gap, s.Hyphen = x.other, x.gap, x.hyphen
	case signLine:
		s.Widths = append(s.Widths, x.width)
	case pairLine:
		s.Pairs = append(s.Pairs, x.pair)
	case wordLine:
		s.Words = append(s.Words, x.word)
	}
	return s
}
