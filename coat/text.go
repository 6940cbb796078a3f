package coat

import (
	"slices"

	"mahlstick/api"
	"mahlstick/lines"
)

// modulo is what the check of a text is the rest modulo of.
const modulo = 181

// digits is how many digits a number of a text has at most.
const digits = 3

// The numbers of the words with which lines begin, in the order of the lines.
const (
	dayWord = iota
	coatWord
)

// kinds returns what lines there are, by the numbers of their words.
func kinds() []lines.Kind {
	return []lines.Kind{
		dayWord:  {Word: "day", Others: 3},
		coatWord: {Word: "coat", Others: 2},
	}
}

// A line is one of a text.
type line interface{ text() string }

type dayLine struct {
	dry  api.Span
	work bool
}

type coatLine struct{ coat api.CoatCoat }

func (x dayLine) text() string {
	return kinds()[dayWord].Line(lines.Join(" ", x.dry.Low, x.dry.High), lines.YesNo(x.work))
}

func (x coatLine) text() string {
	return kinds()[coatWord].Line(lines.Join(" ", x.coat.Need, x.coat.Peel))
}

// write returns the text of a sheet.
func write(s api.CoatSheet) string {
	var all []line
	for day, dry := range s.Dry {
		all = append(all, dayLine{dry, slices.Contains(s.Work, day)})
	}
	for _, coat := range s.Coats {
		all = append(all, coatLine{coat})
	}
	var body []string
	for _, x := range all {
		body = append(body, x.text())
	}
	return lines.Seal(body, modulo)
}

// parse returns the sheet of a text, which may not be as defined, or false if the string is no text.
func parse(text string) (api.CoatSheet, bool) {
	var s api.CoatSheet
	last := dayWord
	ok := lines.Parse(text, modulo, kinds(), func(word int, others []string) {
		lines.Must(word >= last)
		s = added(s, mustLine(word, others))
		last = word
	})
	if !ok {
		return api.CoatSheet{}, false
	}
	return s, true
}

// mustLine returns the line that has a word and some others after it.
func mustLine(word int, others []string) line {
	n := lines.MustNumbers(others[:2], digits)
	if word == dayWord {
		return dayLine{api.Span{Low: n[0], High: n[1]}, lines.MustYesNo(others[2])}
	}
	return coatLine{api.CoatCoat{Need: n[0], Peel: n[1]}}
}

// added returns a sheet with what one line more says; a day of work is the one that is added.
func added(s api.CoatSheet, x line) api.CoatSheet {
	switch x := x.(type) {
	case dayLine:
		if x.work {
			s.Work = append(s.Work, len(s.Dry))
		}
		s.Dry = append(s.Dry, x.dry)
	case coatLine:
		s.Coats = append(s.Coats, x.coat)
	}
	return s
}
