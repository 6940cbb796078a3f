package bench

import (
	"mahlstick/api"
	"mahlstick/lines"
)

// modulo is what the check of a text is the rest modulo of.
const modulo = 197

// digits is how many digits a number of a text has at most.
const digits = 2

// The numbers of the words with which lines begin, in the order of the lines, of which those of strokes are mixed; before the first line there is no word.
const (
	noWord = iota - 1
	benchWord
	boardWord
	straightWord
	roundWord
)

// kinds returns what lines there are, by the numbers of their words.
func kinds() []lines.Kind {
	return []lines.Kind{
		benchWord:    {Word: "bench", Others: 1},
		boardWord:    {Word: "board", Others: 1},
		straightWord: {Word: "straight", Others: 4},
		roundWord:    {Word: "round", Others: 4},
	}
}

// A line is one of a text.
type line interface{ text() string }

type benchLine struct{ apprentices int }

type boardLine struct{ due int }

type strokeLine struct{ stroke api.BenchStroke }

func (x benchLine) text() string {
	return kinds()[benchWord].Line(lines.Join(" ", x.apprentices))
}

func (x boardLine) text() string {
	return kinds()[boardWord].Line(lines.Join(" ", x.due))
}

func (x strokeLine) text() string {
	word := straightWord
	if x.stroke.Round {
		word = roundWord
	}
	return kinds()[word].Line(lines.Join(" ", x.stroke.Board, x.stroke.Hours.Low, x.stroke.Hours.High), lines.List(x.stroke.Needs))
}

// write returns the text of a bench.
func write(b api.BenchBook) string {
	all := []line{benchLine{b.Apprentices}}
	for _, due := range b.Boards {
		all = append(all, boardLine{due})
	}
	for _, stroke := range b.Strokes {
		all = append(all, strokeLine{stroke})
	}
	var body []string
	for _, x := range all {
		body = append(body, x.text())
	}
	return lines.Seal(body, modulo)
}

// parse returns the bench of a text, which may not be as defined, or false if the string is no text.
func parse(text string) (api.BenchBook, bool) {
	var b api.BenchBook
	last := noWord
	ok := lines.Parse(text, modulo, kinds(), func(word int, others []string) {
		lines.Must(mayComeAfter(last, word))
		b = added(b, mustLine(word, others))
		last = word
	})
	if !ok || last == noWord {
		return api.BenchBook{}, false
	}
	return b, true
}

// mayComeAfter reports whether a line with a word can follow one with another word.
func mayComeAfter(last, word int) bool {
	switch word {
	case benchWord:
		return last == noWord
	case boardWord:
		return last == benchWord || last == boardWord
	default:
		return last != noWord
	}
}

// mustLine returns the line that has a word and some others after it.
func mustLine(word int, others []string) line {
	switch word {
	case benchWord:
		return benchLine{lines.MustNumbers(others, digits)[0]}
	case boardWord:
		return boardLine{lines.MustNumbers(others, digits)[0]}
	default:
		n := lines.MustNumbers(others[:3], digits)
		return strokeLine{api.BenchStroke{Board: n[0], Round: word == roundWord, Hours: api.Span{Low: n[1], High: n[2]}, Needs: lines.MustList(others[3], digits)}}
	}
}

// added returns a bench with what one line more says.
func added(b api.BenchBook, x line) api.BenchBook {
	switch x := x.(type) {
	case benchLine:
		b.Apprentices = x.apprentices
	case boardLine:
		b.Boards = append(b.Boards, x.due)
	case strokeLine:
		b.Strokes = append(b.Strokes, x.stroke)
	}
	return b
}
