package sight

import (
	"mahlstick/api"
	"mahlstick/lines"
)

// modulo is what the check of a text is the rest modulo of.
const modulo = 179

// digits is how many digits a number of a text has at most.
const digits = 3

// The words that say whether a block is sure.
const (
	sure    = "sure"
	perhaps = "perhaps"
)

// The numbers of the words with which lines begin, in the order in which they are first there; before the first line there is no word.
const (
	noWord = iota - 1
	sightWord
	boardWord
	letterWord
	blockWord
)

// kinds returns what lines there are, by the numbers of their words.
func kinds() []lines.Kind {
	return []lines.Kind{
		sightWord:  {Word: "sight", Others: 6},
		boardWord:  {Word: "board", Others: 1},
		letterWord: {Word: "letter", Others: 4},
		blockWord:  {Word: "block", Others: 5},
	}
}

// A line is one of a text.
type line interface{ text() string }

type sightLine struct {
	length int
	width  int
	eye    api.Span
	light  api.Span
}

type boardLine struct{ at int }

type letterLine struct{ letter api.SightLetter }

type blockLine struct{ block api.SightBlock }

func (x sightLine) text() string {
	return kinds()[sightWord].Line(lines.Join(" ", x.length, x.width, x.eye.Low, x.eye.High, x.light.Low, x.light.High))
}

func (x boardLine) text() string {
	return kinds()[boardWord].Line(lines.Join(" ", x.at))
}

func (x letterLine) text() string {
	return kinds()[letterWord].Line(lines.Join(" ", x.letter.Height, x.letter.Width, x.letter.Stroke, x.letter.Space))
}

func (x blockLine) text() string {
	when := perhaps
	if x.block.Sure {
		when = sure
	}
	return kinds()[blockWord].Line(when, lines.Join(" ", x.block.Along.Low, x.block.Along.High, x.block.Across.Low, x.block.Across.High))
}

// write returns the text of a street.
func write(s api.SightStreet) string {
	all := []line{sightLine{s.Length, s.Width, s.Eye, s.Light}}
	for _, board := range s.Boards {
		all = append(all, boardLine{board.At})
		for _, letter := range board.Letters {
			all = append(all, letterLine{letter})
		}
	}
	for _, block := range s.Blocks {
		all = append(all, blockLine{block})
	}
	var body []string
	for _, x := range all {
		body = append(body, x.text())
	}
	return lines.Seal(body, modulo)
}

// parse returns the street of a text, which may not be as defined, or false if the string is no text.
func parse(text string) (api.SightStreet, bool) {
	var s api.SightStreet
	last := noWord
	ok := lines.Parse(text, modulo, kinds(), func(word int, others []string) {
		lines.Must(mayFollow(last, word))
		s = added(s, mustLine(word, others))
		last = word
	})
	if !ok || last == noWord {
		return api.SightStreet{}, false
	}
	return s, true
}

// mayFollow reports whether a line with a word can follow one with another word.
func mayFollow(last, word int) bool {
	switch word {
	case sightWord:
		return last == noWord
	case boardWord:
		return last >= sightWord && last != blockWord
	case letterWord:
		return last == boardWord || last == letterWord
	default:
		return last >= sightWord
	}
}

// mustLine returns the line that has a word and some others after it.
func mustLine(word int, others []string) line {
	if word == blockWord {
		n := lines.MustNumbers(others[1:], digits)
		return blockLine{api.SightBlock{Along: api.Span{Low: n[0], High: n[1]}, Across: api.Span{Low: n[2], High: n[3]}, Sure: mustSure(others[0])}}
	}
	n := lines.MustNumbers(others, digits)
	switch word {
	case sightWord:
		return sightLine{n[0], n[1], api.Span{Low: n[2], High: n[3]}, api.Span{Low: n[4], High: n[5]}}
	case boardWord:
		return boardLine{n[0]}
	default:
		return letterLine{api.SightLetter{Height: n[0], Width: n[1], Stroke: n[2], Space: n[3]}}
	}
}

// mustSure returns whether a block is sure of which a word says when it is there.
func mustSure(when string) bool {
	lines.Must(when == sure || when == perhaps)
	return when == sure
}

// added returns a street with what one line more says; a letter is one of the last board.
func added(s api.SightStreet, x line) api.SightStreet {
	switch x := x.(type) {
	case sightLine:
		s.Length, s.Width, s.Eye, s.Light = x.length, x.width, x.eye, x.light
	case boardLine:
		s.Boards = append(s.Boards, api.SightBoard{At: x.at})
	case letterLine:
		last := &s.Boards[len(s.Boards)-1]
		last.Letters = append(last.Letters, x.letter)
	case blockLine:
		s.Blocks = append(s.Blocks, x.block)
	}
	return s
}
