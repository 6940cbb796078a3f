package strip

import (
	"mahlstick/api"
	"mahlstick/lines"
)

// modulo is what the check of a text is the rest modulo of.
const modulo = 193

// digits is how many digits a number of a text has at most.
const digits = 2

// The numbers of the words with which lines begin, in the order of the lines; before the first line there is no word.
const (
	noWord = iota - 1
	boardWord
	spotWord
)

// kinds returns what lines there are, by the numbers of their words.
func kinds() []lines.Kind {
	return []lines.Kind{
		boardWord: {Word: "board", Others: 1},
		spotWord:  {Word: "spot", Others: lines.Any},
	}
}

// A line is one of a text.
type line interface{ text() string }

type boardLine struct{ names int }

type spotLine struct{ names []int }

func (x boardLine) text() string {
	return kinds()[boardWord].Line(lines.Join(" ", x.names))
}

func (x spotLine) text() string {
	return kinds()[spotWord].Line(lines.Join(" ", x.names...))
}

// write returns the text of a board.
func write(b api.StripBoard) string {
	all := []line{boardLine{b.Names}}
	for _, spot := range b.Spots {
		all = append(all, spotLine{spot})
	}
	var body []string
	for _, x := range all {
		body = append(body, x.text())
	}
	return lines.Seal(body, modulo)
}

// parse returns the board of a text, which may not be as defined, or false if the string is no text.
func parse(text string) (api.StripBoard, bool) {
	var b api.StripBoard
	last := noWord
	ok := lines.Parse(text, modulo, kinds(), func(word int, others []string) {
		// the line board is there once, before all others
		lines.Must((word == boardWord) == (last == noWord))
		b = added(b, mustLine(word, others))
		last = word
	})
	if !ok || last == noWord {
		return api.StripBoard{}, false
	}
	return b, true
}

// mustLine returns the line that has a word and some others after it.
func mustLine(word int, others []string) line {
	n := lines.MustNumbers(others, digits)
	if word == boardWord {
		return boardLine{n[0]}
	}
	return spotLine{n}
}

// added returns a board with what one line more says.
func added(b api.StripBoard, x line) api.StripBoard {
	switch x := x.(type) {
	case boardLine:
		b.Names = x.names
	case spotLine:
		b.Spots = append(b.Spots, x.names)
	}
	return b
}
