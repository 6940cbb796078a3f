package letter

import (
	"slices"

	"mahlstick/api"
	"mahlstick/sum"
)

// signPair is the signs of two letters next to each other.
type signPair struct{ left, right int }

// A mark is a letter of a setting.
type mark struct {
	word   int
	sign   int
	row    int
	hyphen bool // whether a hyphen follows it
}

// laid is a sheet with a setting of it, and a stretch.
type laid struct {
	api.LetterSheet
	api.LetterSetting
	stretch int
	spaces  map[signPair]api.Span // those of pairs
	marks   []mark                // all letters that are not left out, in order
}

// lay returns a sheet with a setting and a stretch.
func lay(s api.LetterSheet, x api.LetterSetting, stretch int) laid {
	l := laid{LetterSheet: s, LetterSetting: x, stretch: stretch, spaces: map[signPair]api.Span{}}
	for _, p := range s.Pairs {
		l.spaces[signPair{p.Left, p.Right}] = p.Space
	}
	row := 0
	for word := range len(s.Words) {
		if slices.Contains(x.Out, word) {
			continue
		}
		all := len(s.Words[word].Signs)
		for i, sign := range s.Words[word].Signs {
			ends := x.Ends[row] == api.LetterEnd{Word: word, Letters: i + 1}
			l.marks = append(l.marks, mark{word, sign, row, ends && i+1 < all})
			if ends {
				row++
			}
		}
	}
	return l
}

// row returns how wide a row is.
func (l laid) row(row int) int {
	var widths []int
	for i, m := range l.marks {
		if m.row != row {
			continue
		}
		widths = append(widths, l.Widths[m.sign], l.space(i))
		if m.hyphen {
			widths = append(widths, l.Hyphen)
		}
	}
	return sum.Of(widths...)
}

// space returns how wide the space after a letter is; nothing is after the end of a row.
func (l laid) space(letter int) int {
	m := l.marks[letter]
	if m.hyphen {
		return l.within(l.Other)
	}
	if letter+1 == len(l.marks) {
		return 0
	}
	next := l.marks[letter+1]
	if next.row != m.row {
		return 0
	}
	if next.word != m.word {
		return l.within(l.Gap)
	}
	if own, ok := l.spaces[signPair{m.sign, next.sign}]; ok {
		return l.within(own)
	}
	return l.within(l.Other)
}

// within returns how wide a space within a span is with the stretch.
func (l laid) within(x api.Span) int {
	return x.Low + (x.High-x.Low)*l.stretch/api.LetterStretch
}

// A measure is what is measured of a setting.
type measure int

const (
	ofRow measure = iota
	ofSpace
)

// measured returns how wide so many rows, or spaces after letters, are, from the first one on.
func (l laid) measured(what measure, most int) []int {
	measures := [...]func(laid, int) int{ofRow: laid.row, ofSpace: laid.space}
	widths := make([]int, most)
	for i := range most {
		widths[i] = measures[what](l, i)
	}
	return widths
}

// rowWidths returns how wide all rows are.
func (l laid) rowWidths() []int { return l.measured(ofRow, len(l.Ends)) }

// places returns, for each row, where its letters begin.
func (l laid) places() [][]int {
	places := make([][]int, len(l.Ends))
	spaces := l.measured(ofSpace, len(l.marks))
	next := 0
	for i, m := range l.marks {
		if len(places[m.row]) == 0 {
			next = 0
		}
		places[m.row] = append(places[m.row], next)
		next += l.Widths[m.sign] + spaces[i]
	}
	return places
}

// tooWide is the panic of a row that is wider than the front.
type tooWide struct{}

// fits reports whether there are rows enough, and the front is wide enough for each one.
func (l laid) fits() (is bool) {
	defer func() {
		if _, wide := recover().(tooWide); wide {
			is = false
		}
	}()
	for row := range l.Ends {
		l.mustHold(row)
	}
	return len(l.Ends) <= l.Rows
}

// mustHold gives up if a row is too wide.
func (l laid) mustHold(row int) {
	if l.row(row) > l.Wide {
		panic(tooWide{})
	}
}

// widest returns the same with the greatest stretch with which it fits, or false if it fits with none.
func (l laid) widest() (laid, bool) {
	result, fits := laid{}, false
	for stretch := range api.LetterStretch + 1 {
		l.stretch = stretch
		if !l.fits() {
			break
		}
		result, fits = l, true
	}
	return result, fits
}
