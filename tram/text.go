package tram

import (
	"strings"

	"mahlstick/api"
	"mahlstick/letter"
	"mahlstick/lines"
)

// modulo is what the check of the first lines of a text, those that are not of the name, is the rest modulo of.
const modulo = 223

// digits is how many digits a number of these lines has at most.
const digits = 2

// The numbers of the words with which lines begin, in the order of the lines; before the first line there is no word.
const (
	noWord = iota - 1
	tramWord
	cellWord
)

// kinds returns what lines there are, by the numbers of their words.
func kinds() []lines.Kind {
	return []lines.Kind{
		tramWord: {Word: "tram", Others: 4},
		cellWord: {Word: "cell", Others: 3},
	}
}

// A line is one of a text.
type line interface{ text() string }

type tramLine struct{ at, reach, pace, turn int }

type cellLine struct{ cell api.TramCell }

func (x tramLine) text() string {
	return kinds()[tramWord].Line(lines.Join(" ", x.at, x.reach, x.pace, x.turn))
}

func (x cellLine) text() string {
	return kinds()[cellWord].Line(lines.Join(" ", x.cell.Ticks.Low, x.cell.Ticks.High), lines.YesNo(x.cell.Hidden))
}

// write returns the text of a sheet.
func write(s api.TramSheet) string {
	all := []line{tramLine{s.At, s.Reach, s.Pace, s.Turn}}
	for _, cell := range s.Cells {
		all = append(all, cellLine{cell})
	}
	var body []string
	for _, x := range all {
		body = append(body, x.text())
	}
	// the name is as defined, or the sheet is not
	name, _ := letter.Print(s.Name)
	return lines.Seal(body, modulo) + name
}

// parts returns the lines of a text up to its first line end, and the name after them. Before a line end there is a line tram at least, so that it follows a line feed; without one the name is empty, which is no text.
func parts(text string) (own, name string) {
	before, after, _ := strings.Cut(text, "\nend ")
	check, name, _ := strings.Cut(after, "\n")
	return before + "\nend " + check + "\n", name
}

// parse returns the sheet of a text, which may not be as defined, or false if the string is no text.
func parse(text string) (api.TramSheet, bool) {
	own, its := parts(text)
	name, e := letter.Read(its)
	s := api.TramSheet{Name: name}
	last := noWord
	ok := lines.Parse(own, modulo, kinds(), func(word int, others []string) {
		lines.Must(mayComeAfter(last, word))
		s = added(s, mustLine(word, others))
		last = word
	})
	// a name that is not as defined has a text all the same; the empty name that is read then is not as defined either
	if !ok || e != api.OK && e != api.ErrArg {
		return api.TramSheet{}, false
	}
	return s, true
}

// mayComeAfter reports whether a line with a word can follow one with another word: the line tram is there once, before all others.
func mayComeAfter(last, word int) bool { return (word == tramWord) == (last == noWord) }

// mustLine returns the line that has a word and some others after it.
func mustLine(word int, others []string) line {
	if word == tramWord {
		n := lines.MustNumbers(others, digits)
		return tramLine{n[0], n[1], n[2], n[3]}
	}
	n := lines.MustNumbers(others[:2], digits)
	return cellLine{api.TramCell{Ticks: api.Span{Low: n[0], High: n[1]}, Hidden: lines.MustYesNo(others[2])}}
}

// added returns a sheet with what one line more says.
func added(s api.TramSheet, x line) api.TramSheet {
	switch x := x.(type) {
	case tramLine:
		s.At, s.Reach, s.Pace, s.Turn = x.at, x.reach, x.pace, x.turn
	case cellLine:
		s.Cells = append(s.Cells, x.cell)
	}
	return s
}
