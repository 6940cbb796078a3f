package price

import (
	"slices"

	"mahlstick/api"
	"mahlstick/lines"
)

// modulo is what the check of a text is the rest modulo of.
const modulo = 211

// digits is how many digits a number of a text has at most.
const digits = 3

// The numbers of the words with which lines begin, in the order of the lines, of which those of tariffs are mixed; before the first line there is no word.
const (
	noWord = iota - 1
	priceWord
	ownerWord
	boardWord
	letterWord
	footWord
	hourWord
	friendWord
)

// lineKinds returns what lines there are, by the numbers of their words; those of tariffs are in the order of the kinds of these.
func lineKinds() []lines.Kind {
	return []lines.Kind{
		priceWord:  {Word: "price", Others: 0},
		ownerWord:  {Word: "owner", Others: 1},
		boardWord:  {Word: "board", Others: 5},
		letterWord: {Word: "letter", Others: 4},
		footWord:   {Word: "foot", Others: 4},
		hourWord:   {Word: "hour", Others: 4},
		friendWord: {Word: "friend", Others: 4},
	}
}

// ruleWords returns the words of the rules, in the order of these.
func ruleWords() []string { return []string{"down", "up", "near", "even"} }

// The words that say when a price is rounded: that of each board, or that of all of them.
const (
	eachWord = "each"
	allWord  = "all"
)

// when returns the word of a tariff that is Each, or not.
func when(each bool) string {
	if each {
		return eachWord
	}
	return allWord
}

// boardLine returns the line of a board.
func boardLine(b api.PriceBoard) string {
	return lineKinds()[boardWord].Line(lines.Join(" ", b.Letters, b.Feet, b.Hours.Low, b.Hours.High, b.Owner))
}

// tariffLine returns the line of a tariff.
func tariffLine(t api.PriceTariff) string {
	its := lineKinds()[letterWord:][t.Kind-api.PriceLetter]
	return its.Line(lines.Join(" ", t.Coins, t.Units), ruleWords()[t.Rule-api.PriceDown], when(t.Each))
}

// write returns the text of a sheet.
func write(s api.PriceSheet) string {
	body := []string{lineKinds()[priceWord].Line()}
	for _, off := range s.Offs {
		body = append(body, lineKinds()[ownerWord].Line(lines.Join(" ", off)))
	}
	for _, board := range s.Boards {
		body = append(body, boardLine(board))
	}
	for _, tariff := range s.Tariffs {
		body = append(body, tariffLine(tariff))
	}
	return lines.Seal(body, modulo)
}

// noText is the panic of a string that is no text.
type noText struct{}

// mustParse returns the sheet of a text, which may not be as defined; it gives up if the string is no text.
func mustParse(text string) api.PriceSheet {
	var s api.PriceSheet
	last := noWord
	ok := lines.Parse(text, modulo, lineKinds(), func(word int, others []string) {
		lines.Must(mayFollow(last, word))
		s = mustAdd(s, word, others)
		last = word
	})
	if !ok || last == noWord {
		panic(noText{})
	}
	return s
}

// mayFollow reports whether a line with a word can follow one with another word: the line price is there once, before all others.
func mayFollow(last, word int) bool {
	return (word == priceWord) == (last == noWord) && min(last, letterWord) <= word
}

// mustAdd returns a sheet with what one line more says; it gives up as Must does if the words of the line are not as a text has them.
func mustAdd(s api.PriceSheet, word int, others []string) api.PriceSheet {
	switch word {
	case priceWord:
		return s
	case ownerWord:
		s.Offs = append(s.Offs, lines.MustNumbers(others, digits)...)
	case boardWord:
		n := lines.MustNumbers(others, digits)
		s.Boards = append(s.Boards, api.PriceBoard{Letters: n[0], Feet: n[1], Hours: api.Span{Low: n[2], High: n[3]}, Owner: n[4]})
	default:
		s.Tariffs = append(s.Tariffs, mustTariff(api.PriceLetter+api.PriceKind(word-letterWord), others))
	}
	return s
}

// mustTariff returns the tariff of the kind with a number that the words of a line are; it gives up as Must does if they are none.
func mustTariff(number api.PriceKind, words []string) api.PriceTariff {
	n := lines.MustNumbers(words[:2], digits)
	rule := slices.Index(ruleWords(), words[2])
	lines.Must(rule >= 0 && (words[3] == eachWord || words[3] == allWord))
	return api.PriceTariff{Kind: number, Coins: n[0], Units: n[1], Rule: api.PriceDown + api.PriceRule(rule), Each: words[3] == eachWord}
}
