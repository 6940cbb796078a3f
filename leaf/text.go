package leaf

import (
	"mahlstick/api"
	"mahlstick/lines"
)

// modulo is what the check of a text is the rest modulo of.
const modulo = 191

// digits is how many digits a number of a text has at most.
const digits = 2

// The numbers of the words with which lines begin; before the first line there is no word.
const (
	noWord = iota - 1
	leafWord
	groundWord
	pieceWord
	eitherWord
)

// kinds returns what lines there are, by the numbers of their words.
func kinds() []lines.Kind {
	return []lines.Kind{
		leafWord:   {Word: "leaf", Others: 4},
		groundWord: {Word: "ground", Others: 4},
		pieceWord:  {Word: "piece", Others: 3},
		eitherWord: {Word: "either", Others: 3},
	}
}

// A line is one of a text.
type line interface {
	text() string
	addTo(j api.LeafJob) api.LeafJob
}

type leafLine struct{ wide, high, book, spoilt int }

type groundLine struct{ ground api.LeafGround }

type pieceLine struct{ piece api.LeafPiece }

func (x leafLine) text() string {
	return kinds()[leafWord].Line(lines.Join(" ", x.wide, x.high, x.book, x.spoilt))
}

func (x groundLine) text() string {
	return kinds()[groundWord].Line(lines.Join(" ", x.ground.Ready.Low, x.ground.Ready.High, x.ground.Last.Low, x.ground.Last.High))
}

func (x pieceLine) text() string {
	word := pieceWord
	if x.piece.Turn {
		word = eitherWord
	}
	return kinds()[word].Line(lines.Join(" ", x.piece.Wide, x.piece.High, x.piece.Ground))
}

func (x leafLine) addTo(j api.LeafJob) api.LeafJob {
	j.Wide, j.High, j.Book, j.Spoilt = x.wide, x.high, x.book, x.spoilt
	return j
}

func (x groundLine) addTo(j api.LeafJob) api.LeafJob {
	j.Grounds = append(j.Grounds, x.ground)
	return j
}

func (x pieceLine) addTo(j api.LeafJob) api.LeafJob {
	j.Pieces = append(j.Pieces, x.piece)
	return j
}

// write returns the text of a job.
func write(j api.LeafJob) string {
	all := []line{leafLine{j.Wide, j.High, j.Book, j.Spoilt}}
	for _, ground := range j.Grounds {
		all = append(all, groundLine{ground})
	}
	for _, piece := range j.Pieces {
		all = append(all, pieceLine{piece})
	}
	var body []string
	for _, x := range all {
		body = append(body, x.text())
	}
	return lines.Seal(body, modulo)
}

// noText is the panic of a string that is no text.
type noText struct{}

// mustParse returns the job of a text, which may not be as defined; it gives up if the string is no text.
func mustParse(text string) api.LeafJob {
	var j api.LeafJob
	last := noWord
	ok := lines.Parse(text, modulo, kinds(), func(word int, others []string) {
		lines.Must(mayFollow(last, word))
		j = lineOf(word, lines.MustNumbers(others, digits)).addTo(j)
		last = word
	})
	if !ok || last == noWord {
		panic(noText{})
	}
	return j
}

// mayFollow reports whether a line with a word can follow one with another word: the line leaf is there once, all others any number of times.
func mayFollow(last, word int) bool {
	switch word {
	case leafWord:
		return last == noWord
	case groundWord:
		return last == leafWord || last == groundWord
	default:
		return last != noWord
	}
}

// lineOf returns the line that has a word and some numbers after it.
func lineOf(word int, n []int) line {
	switch word {
	case leafWord:
		return leafLine{n[0], n[1], n[2], n[3]}
	case groundWord:
		return groundLine{api.LeafGround{Ready: api.Span{Low: n[0], High: n[1]}, Last: api.Span{Low: n[2], High: n[3]}}}
	default:
		return pieceLine{api.LeafPiece{Wide: n[0], High: n[1], Turn: word == eitherWord, Ground: n[2]}}
	}
}
