package tint

import (
	"mahlstick/api"
	"mahlstick/lines"
)

// modulo is what the check of a text is the rest modulo of.
const modulo = 199

// digits is how many digits a number of a text has at most.
const digits = 2

// The numbers of the words with which lines begin, in the order of the lines; before the first line there is no word.
const (
	noWord = iota - 1
	boardWord
	fadeWord
	tinWord
)

// kinds returns what lines there are, by the numbers of their words.
func kinds() []lines.Kind {
	return []lines.Kind{
		boardWord: {Word: "board", Others: 6},
		fadeWord:  {Word: "fade", Others: 6},
		tinWord:   {Word: "tin", Others: 6},
	}
}

// A line is one of a text.
type line interface{ text() string }

type boardLine struct {
	old   [3]int
	years api.Span
	off   int
}

type fadeLine struct{ fade [3]api.Span }

type tinLine struct{ tin api.TintTin }

func (x boardLine) text() string {
	return kinds()[boardWord].Line(lines.Join(" ", x.old[:]...), lines.Join(" ", x.years.Low, x.years.High, x.off))
}

func (x fadeLine) text() string { return kinds()[fadeWord].Line(spansText(x.fade)) }

func (x tinLine) text() string { return kinds()[tinWord].Line(spansText(x.tin.Pigments)) }

// spansText returns the ends of three spans, as a line has them.
func spansText(spans [3]api.Span) string {
	var ends []int
	for _, span := range spans {
		ends = append(ends, span.Low, span.High)
	}
	return lines.Join(" ", ends...)
}

// write returns the text of a sheet.
func write(s api.TintSheet) string {
	all := []line{boardLine{s.Old, s.Years, s.Off}, fadeLine{s.Fade}}
	for _, tin := range s.Tins {
		all = append(all, tinLine{tin})
	}
	var body []string
	for _, x := range all {
		body = append(body, x.text())
	}
	return lines.Seal(body, modulo)
}

// parse returns the sheet of a text, which may not be as defined, or false if the string is no text.
func parse(text string) (api.TintSheet, bool) {
	var s api.TintSheet
	last := noWord
	ok := lines.Parse(text, modulo, kinds(), func(word int, others []string) {
		// each line but those of tins is there once
		lines.Must(word == last+1 || word == tinWord && last == tinWord)
		s = added(s, mustLine(word, others))
		last = word
	})
	if !ok || last < fadeWord {
		return api.TintSheet{}, false
	}
	return s, true
}

// mustLine returns the line that has a word and some others after it.
func mustLine(word int, others []string) line {
	n := lines.MustNumbers(others, digits)
	switch word {
	case boardWord:
		return boardLine{[3]int{n[0], n[1], n[2]}, api.Span{Low: n[3], High: n[4]}, n[5]}
	case fadeWord:
		return fadeLine{spansOf(n)}
	default:
		return tinLine{api.TintTin{Pigments: spansOf(n)}}
	}
}

// spansOf returns the three spans that have some ends.
func spansOf(ends []int) [3]api.Span {
	return [3]api.Span{{Low: ends[0], High: ends[1]}, {Low: ends[2], High: ends[3]}, {Low: ends[4], High: ends[5]}}
}

// added returns a sheet with what one line more says.
func added(s api.TintSheet, x line) api.TintSheet {
	switch x := x.(type) {
	case boardLine:
		s.Old, s.Years, s.Off = x.old, x.years, x.off
	case fadeLine:
		s.Fade = x.fade
	case tinLine:
		s.Tins = append(s.Tins, x.tin)
	}
	return s
}
