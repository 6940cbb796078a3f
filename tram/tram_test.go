package tram_test

import (
	"math"
	"slices"
	"testing"

	"mahlstick/api"
	"mahlstick/letter"
	"mahlstick/tram"
)

const (
	never  = api.TramNever
	may    = api.TramMay
	surely = api.TramSurely
)

func l(numbers ...int) []int { return numbers }

func span(low, high int) api.Span { return api.Span{Low: low, High: high} }

func spans(all ...api.Span) []api.Span { return all }

// seen and hidden return cells.
func seen(low, high int) api.TramCell { return api.TramCell{Ticks: span(low, high)} }
func hidden(low, high int) api.TramCell {
	return api.TramCell{Ticks: span(low, high), Hidden: true}
}

func cells(all ...api.TramCell) []api.TramCell { return all }

// nameA returns the sheet a of layer 1.
func nameA() api.LetterSheet {
	return api.LetterSheet{
		Widths: l(6, 4, 8),
		Pairs:  []api.LetterPair{{Left: 0, Right: 1, Space: span(1, 3)}, {Left: 2, Right: 0, Space: span(0, 2)}},
		Other:  span(2, 4),
		Gap:    span(5, 8),
		Hyphen: 3,
		Words:  []api.LetterWord{{Signs: l(2, 0, 1)}, {Signs: l(0, 2), Cuts: l(1), Free: true}},
		Wide:   21,
		Rows:   2,
	}
}

// bar returns a name of words that have so many letters, all of them 1 wide, without spaces.
func bar(wide, rows int, letters ...int) api.LetterSheet {
	name := api.LetterSheet{Widths: l(1), Hyphen: 1, Wide: wide, Rows: rows}
	for _, n := range letters {
		name.Words = append(name.Words, api.LetterWord{Signs: make([]int, n)})
	}
	return name
}

// cut returns a name with cuts of a word.
func cut(name api.LetterSheet, word int, cuts ...int) api.LetterSheet {
	name.Words = slices.Clone(name.Words)
	name.Words[word].Cuts = cuts
	return name
}

// free returns a name of which some words are free.
func free(name api.LetterSheet, words ...int) api.LetterSheet {
	name.Words = slices.Clone(name.Words)
	for _, word := range words {
		name.Words[word].Free = true
	}
	return name
}

// a, b, c and d return the sheets of the chapter, and one the one that has a text.
func a() api.TramSheet {
	return api.TramSheet{Cells: cells(seen(2, 3), seen(2, 2), hidden(1, 2), seen(3, 4), seen(2, 5), seen(1, 1)), At: 6, Reach: 5, Pace: 2, Turn: 1, Name: nameA()}
}
func b() api.TramSheet { return with(a(), func(s *api.TramSheet) { s.Pace = 1 }) }
func c() api.TramSheet { return with(a(), func(s *api.TramSheet) { s.Name.Wide = 18 }) }
func d() api.TramSheet {
	return with(a(), func(s *api.TramSheet) {
		s.Name = api.LetterSheet{Widths: l(5), Hyphen: 1, Words: []api.LetterWord{{Signs: l(0, 0, 0, 0), Cuts: l(1, 3)}}, Wide: 16, Rows: 2}
	})
}
func one() api.TramSheet {
	return api.TramSheet{Cells: cells(seen(1, 2)), At: 1, Reach: 1, Pace: 1, Name: bar(1, 1, 1)}
}

// largest returns a sheet that has as much of everything as can be.
func largest() api.TramSheet {
	name := api.LetterSheet{Widths: slices.Repeat(l(20), 6), Other: span(9, 9), Gap: span(20, 20), Hyphen: 20, Wide: 400, Rows: 3}
	for right := range 6 {
		name.Pairs = append(name.Pairs, api.LetterPair{Left: 5, Right: right, Space: span(9, 9)})
	}
	for range 4 {
		name.Words = append(name.Words, api.LetterWord{Signs: l(5, 5, 5, 5, 5, 5), Cuts: l(1, 2, 3, 4, 5), Free: true})
	}
	return api.TramSheet{Cells: slices.Repeat(cells(hidden(20, 20)), 12), At: 12, Reach: 12, Pace: 9, Turn: 9, Name: name}
}

// way returns a sheet of some cells, all of which are in reach, and of words that need as many ticks as they have letters.
func way(all []api.TramCell, letters ...int) api.TramSheet {
	return api.TramSheet{Cells: all, At: len(all), Reach: 12, Pace: 1, Name: bar(400, 3, letters...)}
}

// freeWay returns the same with words that are free.
func freeWay(all []api.TramCell, letters ...int) api.TramSheet {
	return with(way(all, letters...), func(s *api.TramSheet) {
		for word := range letters {
			s.Name.Words[word].Free = true
		}
	})
}

// slowest returns a sheet of one cell, and of words that need as many ticks as can be.
func slowest(cell api.TramCell) api.TramSheet {
	s := way(cells(cell), 6, 6, 6, 6)
	s.Pace, s.Turn = 9, 9
	// there is room for three rows of ten letters, or of nine and a hyphen
	s.Name = cut(cut(bar(10, 3, 6, 6, 6, 6), 1, 3), 2, 5)
	return s
}

// badSheets returns sheets that are not as defined, each by one change.
func badSheets() []api.TramSheet {
	bad := []api.TramSheet{{}}
	for _, change := range []func(*api.TramSheet){
		func(s *api.TramSheet) { s.Cells = nil },
		func(s *api.TramSheet) { s.Cells = cells() },
		func(s *api.TramSheet) { s.Cells = slices.Repeat(cells(seen(1, 1)), 13) },
		func(s *api.TramSheet) { s.Cells = slices.Repeat(cells(seen(1, 1)), 1000) },
		func(s *api.TramSheet) { s.At = 0 },
		func(s *api.TramSheet) { s.At = -1 },
		func(s *api.TramSheet) { s.At = 7 },
		func(s *api.TramSheet) { s.At = math.MinInt },
		func(s *api.TramSheet) { s.At = math.MaxInt },
		// the board is at a cell that there is not
		func(s *api.TramSheet) { s.Cells = s.Cells[:5] },
		func(s *api.TramSheet) { s.Reach = 0 },
		func(s *api.TramSheet) { s.Reach = 13 },
		func(s *api.TramSheet) { s.Reach = math.MinInt },
		func(s *api.TramSheet) { s.Reach = math.MaxInt },
		func(s *api.TramSheet) { s.Pace = 0 },
		func(s *api.TramSheet) { s.Pace = -1 },
		func(s *api.TramSheet) { s.Pace = 10 },
		func(s *api.TramSheet) { s.Pace = math.MaxInt },
		func(s *api.TramSheet) { s.Turn = -1 },
		func(s *api.TramSheet) { s.Turn = 10 },
		func(s *api.TramSheet) { s.Turn = math.MinInt },
		func(s *api.TramSheet) { s.Name = api.LetterSheet{} },
		func(s *api.TramSheet) { s.Name.Widths[0] = 0 },
		func(s *api.TramSheet) { s.Name.Pairs[0].Right = 3 },
		func(s *api.TramSheet) { s.Name.Other = span(4, 2) },
		func(s *api.TramSheet) { s.Name.Gap = span(-1, 2) },
		func(s *api.TramSheet) { s.Name.Hyphen = 21 },
		func(s *api.TramSheet) { s.Name.Words = nil },
		func(s *api.TramSheet) { s.Name.Words[1].Cuts = l(2) },
		func(s *api.TramSheet) { s.Name.Words = slices.Repeat(s.Name.Words[:1], 5) },
		func(s *api.TramSheet) { s.Name.Wide = 401 },
		func(s *api.TramSheet) { s.Name.Rows = 0 },
	} {
		bad = append(bad, with(a(), change))
	}
	for number := range 6 {
		for _, ticks := range spans(span(0, 1), span(-1, 5), span(20, 21), span(3, 2), span(21, 21), span(math.MinInt, math.MaxInt), span(math.MaxInt, math.MinInt)) {
			bad = append(bad, with(a(), func(s *api.TramSheet) { s.Cells[number].Ticks = ticks }))
		}
	}
	return bad
}

// P9.1: sheets at all limits are as defined, also if their names do not fit.
func TestCheckLimits(t *testing.T) {
	for i, s := range []api.TramSheet{
		a(), b(), c(), d(), one(), largest(), way(slices.Repeat(cells(seen(1, 20), hidden(20, 20), hidden(1, 1)), 4), 6, 6, 6, 6),
		with(a(), func(s *api.TramSheet) { s.At = 1 }),
		with(a(), func(s *api.TramSheet) { s.Reach = 1 }),
		with(a(), func(s *api.TramSheet) { s.Reach = 12 }),
		with(a(), func(s *api.TramSheet) { s.Pace, s.Turn = 9, 0 }),
		with(a(), func(s *api.TramSheet) { s.Pace, s.Turn = 1, 9 }),
		with(a(), func(s *api.TramSheet) { s.Name.Pairs = nil }),
		with(a(), func(s *api.TramSheet) { s.Name.Wide, s.Name.Rows = 1, 1 }),
	} {
		if e := tram.Check(s); e != api.OK {
			t.Error(i, e)
		}
	}
}

// numbers returns the functions of a sheet that return a number, twos those that return two, and lists those that return a list.
func numbers() []func(api.TramSheet) (int, api.Errno) {
	return []func(api.TramSheet) (int, api.Errno){tram.Surely, tram.Most, tram.Far, tram.Slowest}
}
func twos() []func(api.TramSheet) (int, int, api.Errno) {
	return []func(api.TramSheet) (int, int, api.Errno){tram.Stop, tram.Hang}
}
func lists() []func(api.TramSheet) ([]int, api.Errno) {
	return []func(api.TramSheet) ([]int, api.Errno){tram.Needs, tram.Leave}
}

// refuse checks that the functions for which the name must fit return an error, and nothing else.
func refuse(t *testing.T, s api.TramSheet, want api.Errno) {
	t.Helper()
	for i, of := range numbers() {
		if n, e := of(s); e != want || n != 0 {
			t.Error(i, s, n, e)
		}
	}
	for i, of := range twos() {
		if n, m, e := of(s); e != want || n != 0 || m != 0 {
			t.Error(i, s, n, m, e)
		}
	}
	if y, e := tram.Needs(s); e != want || len(y) > 0 {
		t.Error(s, y, e)
	}
}

// refuseRide checks the same of Sees, and refuseWord of Word.
func refuseRide(t *testing.T, s api.TramSheet, ride []int, want api.Errno) {
	t.Helper()
	if n, e := tram.Sees(s, ride); e != want || n != 0 {
		t.Error(s, ride, n, e)
	}
}
func refuseWord(t *testing.T, s api.TramSheet, word int, want api.Errno) {
	t.Helper()
	if w, e := tram.Word(s, word); e != want || w != 0 {
		t.Error(s, word, w, e)
	}
}

// P9.1 to P9.6 and P9.8: all functions return ErrArg for a sheet that is not as defined, and nothing else.
func TestBadSheets(t *testing.T) {
	for i, s := range badSheets() {
		if e := tram.Check(s); e != api.ErrArg {
			t.Error(i, e)
		}
		refuse(t, s, api.ErrArg)
		refuseRide(t, s, l(2, 2, 1, 3, 4, 1), api.ErrArg)
		refuseRide(t, s, nil, api.ErrArg)
		refuseWord(t, s, 0, api.ErrArg)
		if y, e := tram.Views(s); e != api.ErrArg || len(y) > 0 {
			t.Error(i, y, e)
		}
		if y, e := tram.Leave(s); e != api.ErrArg || len(y) > 0 {
			t.Error(i, y, e)
		}
		if text, e := tram.Print(s); e != api.ErrArg || text != "" {
			t.Error(i, text, e)
		}
	}
}

// P9.2: lists that are no rides, and numbers of words that there are not, also if the name does not fit.
func TestBadArguments(t *testing.T) {
	for _, s := range []api.TramSheet{a(), c()} {
		for _, ride := range [][]int{nil, {}, l(2, 2, 1, 3, 4), l(2, 2, 1, 3, 4, 1, 1), l(1, 2, 1, 3, 4, 1), l(4, 2, 1, 3, 4, 1), l(2, 2, 0, 3, 4, 1), l(2, 2, 3, 3, 4, 1), l(2, 2, 1, 3, 6, 1), l(2, 2, 1, 3, 4, 0), l(2, 2, 1, 3, 4, 2), l(2, -2, 1, 3, 4, 1), l(math.MinInt, 2, 1, 3, 4, 1), l(2, 2, 1, 3, math.MaxInt, 1), make([]int, 1000)} {
			refuseRide(t, s, ride, api.ErrArg)
		}
		for _, word := range l(-1, 2, 3, math.MinInt, math.MaxInt) {
			refuseWord(t, s, word, api.ErrArg)
		}
	}
	refuseRide(t, one(), l(3), api.ErrArg)
	refuseWord(t, one(), 1, api.ErrArg)
}

// P9.1 to P9.6: where the name does not fit, ErrRule is returned by all functions that ask how it is set, and by no others.
func TestNamesThatDoNotFit(t *testing.T) {
	far := with(way(cells(hidden(1, 1)), 5), func(s *api.TramSheet) { s.Name.Wide = 4 })
	for i, s := range []api.TramSheet{c(), with(d(), func(s *api.TramSheet) { s.Name.Rows = 1 }), far} {
		if e := tram.Check(s); e != api.OK {
			t.Error(i, e)
		}
		refuse(t, s, api.ErrRule)
		refuseWord(t, s, 0, api.ErrRule)
		var ride []int
		for _, cell := range s.Cells {
			ride = append(ride, cell.Ticks.Low)
		}
		refuseRide(t, s, ride, api.ErrRule)
		if _, e := tram.Views(s); e != api.OK {
			t.Error(i, e)
		}
		if y, e := tram.Leave(s); e != api.ErrNone || len(y) > 0 {
			t.Error(i, y, e)
		}
		if text, e := tram.Print(s); e != api.OK || text == "" {
			t.Error(i, text, e)
		}
	}
}

// P9.1 and P9.7: the examples of the chapter, words that are cut once, twice and not at all, and rows that end between words.
func TestNeeds(t *testing.T) {
	three := way(cells(seen(1, 1)), 6)
	three.Pace, three.Turn = 3, 5
	for i, x := range []struct {
		s    api.TramSheet
		want []int
	}{
		{a(), l(6, 4)}, {b(), l(3, 2)}, {d(), l(9)}, {one(), l(1)}, {largest(), l(54, 63, 54, 54)}, {slowest(seen(1, 1)), l(54, 63, 63, 54)}, {with(d(), func(s *api.TramSheet) { s.Turn = 0 }), l(8)}, {with(d(), func(s *api.TramSheet) { s.Pace, s.Turn = 9, 9 }), l(45)},
		// it has room in one row, needs two, or three
		{with(three, func(s *api.TramSheet) { s.Name = cut(bar(6, 3, 6), 0, 2, 4) }), l(18)}, {with(three, func(s *api.TramSheet) { s.Name = cut(bar(5, 3, 6), 0, 2, 4) }), l(23)}, {with(three, func(s *api.TramSheet) { s.Name = cut(bar(3, 3, 6), 0, 2, 4) }), l(28)},
		// a row ends after the last letter of the word 0, and one before it
		{with(three, func(s *api.TramSheet) { s.Name = bar(4, 2, 3, 2) }), l(9, 6)}, {with(three, func(s *api.TramSheet) { s.Name = cut(bar(4, 2, 5, 2), 0, 2, 3) }), l(20, 6)},
		// of two words the second one is cut if it must be
		{with(three, func(s *api.TramSheet) { s.Name = cut(bar(4, 3, 3, 4), 1, 1) }), l(9, 12)}, {with(three, func(s *api.TramSheet) { s.Name = cut(cut(bar(3, 3, 3, 4), 0, 1), 1, 1) }), l(9, 17)}, {with(three, func(s *api.TramSheet) { s.Name = cut(bar(4, 3, 3, 1, 3), 2, 1) }), l(9, 3, 9)},
	} {
		if y, e := tram.Needs(x.s); e != api.OK || !slices.Equal(y, x.want) {
			t.Error(i, y, e)
		}
	}
}

// P9.1: the examples of the chapter, and cells at the ends of what is in reach, of what is hidden, and of the way.
func TestViews(t *testing.T) {
	s := api.TramSheet{Cells: slices.Repeat(cells(seen(1, 1)), 6), Pace: 1, Name: bar(1, 1, 1)}
	at := func(at, reach int, dark ...int) api.TramSheet {
		return with(s, func(s *api.TramSheet) {
			s.At, s.Reach = at, reach
			for _, cell := range dark {
				s.Cells[cell].Hidden = true
			}
		})
	}
	for i, x := range []struct {
		s    api.TramSheet
		want []api.Span
	}{
		{a(), spans(span(1, 1), span(3, 5))}, {c(), spans(span(1, 1), span(3, 5))}, {one(), spans(span(0, 0))}, {largest(), nil}, {slowest(seen(1, 1)), spans(span(0, 0))},
		{at(1, 1), spans(span(0, 0))}, {at(1, 12), spans(span(0, 0))}, {at(2, 1), spans(span(1, 1))}, {at(4, 2), spans(span(2, 3))}, {at(4, 4), spans(span(0, 3))}, {at(4, 5), spans(span(0, 3))}, {at(6, 1), spans(span(5, 5))}, {at(6, 6), spans(span(0, 5))}, {at(6, 12), spans(span(0, 5))},
		{at(6, 6, 0), spans(span(1, 5))}, {at(6, 6, 5), spans(span(0, 4))}, {at(6, 6, 0, 5), spans(span(1, 4))}, {at(6, 6, 2, 3), spans(span(0, 1), span(4, 5))}, {at(6, 6, 1, 3, 5), spans(span(0, 0), span(2, 2), span(4, 4))}, {at(6, 6, 0, 2, 4), spans(span(1, 1), span(3, 3), span(5, 5))},
		{at(4, 2, 1, 4), spans(span(2, 3))}, {at(4, 2, 2), spans(span(3, 3))}, {at(4, 2, 3), spans(span(2, 2))}, {at(4, 2, 2, 3), nil}, {at(1, 3, 0), nil}, {at(6, 6, 0, 1, 2, 3, 4, 5), nil}, {at(3, 3, 3, 4, 5), spans(span(0, 2))},
	} {
		if y, e := tram.Views(x.s); e != api.OK || !slices.Equal(y, x.want) {
			t.Error(i, y, e)
		}
	}
}

// P9.2: the examples of the chapter, views that are just long enough or not, and words that must wait for others.
func TestSees(t *testing.T) {
	two := cells(seen(1, 9), seen(1, 9), hidden(1, 9), seen(1, 9))
	for i, x := range []struct {
		s    api.TramSheet
		ride []int
		want int
	}{
		{a(), l(2, 2, 1, 3, 4, 1), 1}, {a(), l(3, 2, 2, 4, 5, 1), 2}, {a(), l(2, 2, 1, 3, 2, 1), 1}, {a(), l(3, 2, 2, 4, 4, 1), 1}, {b(), l(2, 2, 1, 3, 2, 1), 2}, {d(), l(2, 2, 1, 3, 4, 1), 0}, {d(), l(2, 2, 1, 3, 5, 1), 1}, {one(), l(1), 1}, {one(), l(2), 1}, {largest(), slices.Repeat(l(20), 12), 0},
		// the cells of a view count together, those of another one, and those from which nothing is seen, do not
		{way(two, 3, 2), l(1, 1, 9, 2), 0}, {way(two, 3, 2), l(1, 2, 9, 1), 1}, {way(two, 3, 2), l(2, 1, 9, 2), 2}, {way(two, 3, 2), l(2, 2, 9, 1), 1}, {way(two, 3, 2), l(2, 3, 1, 1), 2}, {way(two, 3, 2), l(1, 1, 9, 3), 1}, {way(two, 3, 2), l(1, 1, 1, 5), 2}, {way(two, 3, 2), l(1, 1, 9, 4), 1},
		// what is left of a view is of no use in the next one
		{way(two, 4, 4), l(4, 3, 9, 1), 1}, {way(two, 4, 4), l(4, 3, 1, 3), 1}, {way(two, 4, 4), l(1, 3, 1, 4), 2}, {way(two, 4, 4), l(4, 4, 1, 1), 2},
		// a short word does not come before a long one
		{way(two, 5, 1, 1, 1), l(2, 2, 1, 4), 0}, {way(two, 1, 5, 1, 1), l(1, 1, 1, 1), 1}, {way(two, 1, 5, 1, 1), l(1, 1, 1, 5), 2}, {way(two, 1, 5, 1, 1), l(1, 1, 1, 6), 3}, {way(two, 1, 5, 1, 1), l(1, 5, 1, 1), 3}, {way(two, 1, 5, 1, 1), l(1, 5, 1, 2), 4}, {way(two, 1, 1, 1, 1), l(1, 1, 1, 1), 3},
	} {
		if n, e := tram.Sees(x.s, x.ride); e != api.OK || n != x.want {
			t.Error(i, n, e)
		}
	}
}

// P9.2: the examples of the chapter, and sheets in which all, some and no words are read.
func TestSurelyMostWord(t *testing.T) {
	ride := cells(seen(1, 2), seen(2, 3), hidden(1, 20), seen(1, 3))
	for i, x := range []struct {
		s            api.TramSheet
		surely, most int
		words        []api.TramWord
	}{
		{a(), 1, 2, []api.TramWord{surely, may}}, {b(), 2, 2, []api.TramWord{surely, surely}}, {d(), 0, 1, []api.TramWord{may}}, {one(), 1, 1, []api.TramWord{surely}}, {largest(), 0, 0, []api.TramWord{never, never, never, never}},
		{way(ride, 3, 1), 2, 2, []api.TramWord{surely, surely}}, {way(ride, 3, 2), 1, 2, []api.TramWord{surely, may}}, {way(ride, 3, 4), 1, 1, []api.TramWord{surely, never}}, {way(ride, 4, 3), 0, 2, []api.TramWord{may, may}}, {way(ride, 5, 4), 0, 1, []api.TramWord{may, never}}, {way(ride, 6), 0, 0, []api.TramWord{never}},
		{way(ride, 2, 2, 2, 2), 1, 3, []api.TramWord{surely, may, may, never}}, {way(ride, 1, 1, 1, 1), 4, 4, []api.TramWord{surely, surely, surely, surely}}, {way(ride, 6, 1, 1), 0, 0, []api.TramWord{never, never, never}},
	} {
		if n, e := tram.Surely(x.s); e != api.OK || n != x.surely {
			t.Error(i, n, e)
		}
		if n, e := tram.Most(x.s); e != api.OK || n != x.most {
			t.Error(i, n, e)
		}
		for word, want := range x.words {
			if w, e := tram.Word(x.s, word); e != api.OK || w != want {
				t.Error(i, word, w, e)
			}
		}
	}
}

// P9.3: the examples of the chapter, cells from which the board is not seen, and more ticks than a cell can take.
func TestStop(t *testing.T) {
	for i, x := range []struct {
		s           api.TramSheet
		cell, ticks int
	}{
		{a(), 1, 4}, {b(), 0, 0}, {d(), 3, 3}, {one(), 0, 0},
		{way(cells(hidden(1, 1), seen(1, 1)), 1), 0, 0}, {way(cells(hidden(1, 1), seen(1, 1)), 2), 1, 1}, {way(cells(hidden(20, 20), seen(1, 20)), 6, 6, 6, 6), 1, 23}, {way(cells(seen(1, 1), seen(1, 1)), 6, 6, 6, 6), 0, 22},
		// the first view, the last one, and both
		{way(cells(seen(2, 2), hidden(1, 1), seen(2, 2)), 3, 2), 0, 1}, {way(cells(seen(2, 2), hidden(1, 1), seen(2, 2)), 2, 3), 2, 1}, {way(cells(seen(2, 2), hidden(1, 1), seen(2, 2)), 2, 2, 1), 2, 1}, {way(cells(seen(2, 2), hidden(1, 1), seen(2, 2)), 2, 2, 2), 0, 2}, {way(cells(seen(1, 1), hidden(1, 1), seen(3, 3)), 2, 4), 2, 3}, {way(cells(seen(3, 3), hidden(1, 1), seen(3, 3)), 5, 4), 0, 6},
		// the board is not in reach from the first cells
		{with(way(cells(seen(9, 9), seen(9, 9), seen(1, 1)), 2), func(s *api.TramSheet) { s.Reach = 1 }), 2, 1}, {with(way(cells(seen(9, 9), seen(1, 1), seen(9, 9)), 3), func(s *api.TramSheet) { s.At, s.Reach = 2, 1 }), 1, 2},
		// 234 ticks are as many as can be needed
		{slowest(seen(20, 20)), 0, 214}, {slowest(seen(1, 20)), 0, 233},
	} {
		if cell, ticks, e := tram.Stop(x.s); e != api.OK || cell != x.cell || ticks != x.ticks {
			t.Error(i, cell, ticks, e)
		}
	}
	for i, s := range []api.TramSheet{largest(), way(cells(hidden(20, 20)), 1), with(way(cells(seen(9, 9), hidden(9, 9), seen(9, 9)), 1), func(s *api.TramSheet) { s.At, s.Reach = 2, 1 })} {
		if cell, ticks, e := tram.Stop(s); e != api.ErrNone || cell != 0 || ticks != 0 {
			t.Error(i, cell, ticks, e)
		}
	}
}

// P9.4: the examples of the chapter, and the least and the greatest numbers that can be.
func TestFarSlowest(t *testing.T) {
	long := slices.Repeat(cells(seen(1, 1)), 12)
	for i, x := range []struct {
		s            api.TramSheet
		far, slowest int
	}{
		{a(), 0, 1}, {b(), 3, 1}, {d(), 0, 1}, {one(), 1, 1}, {largest(), 0, 0}, {way(cells(hidden(1, 1)), 1), 0, 0},
		{way(long, 1), 1, 9}, {way(long, 2), 2, 6}, {way(long, 6), 6, 2}, {way(long, 6, 5), 11, 1}, {way(long, 6, 6), 12, 1}, {way(long, 6, 6, 1), 0, 0}, {way(long[:6], 6), 6, 1}, {way(long[:6], 6, 1), 0, 0},
		// it is hidden nearby, and farther off
		{way(cells(seen(2, 2), hidden(9, 9), seen(9, 9), hidden(9, 9)), 2, 2), 2, 2}, {way(cells(seen(2, 2), hidden(9, 9), seen(3, 3)), 2, 2), 3, 1}, {way(cells(seen(2, 2), hidden(9, 9), seen(1, 1)), 2, 2), 0, 0},
		// with the Pace 9, as it is with Reach 1; with a Turn alone
		{with(way(cells(seen(9, 9), seen(9, 9)), 1), func(s *api.TramSheet) { s.Pace, s.Reach = 9, 1 }), 1, 9}, {with(way(cells(seen(20, 20)), 1), func(s *api.TramSheet) { s.Pace, s.Turn = 1, 9 }), 1, 9},
		{with(d(), func(s *api.TramSheet) { s.Turn, s.Reach = 2, 1 }), 0, 0}, {with(d(), func(s *api.TramSheet) { s.Turn, s.Pace = 3, 1 }), 0, 0}, {with(d(), func(s *api.TramSheet) { s.Turn, s.Pace = 2, 1 }), 3, 1},
	} {
		wanted := func(n int) api.Errno {
			if n == 0 {
				return api.ErrNone
			}
			return api.OK
		}
		if n, e := tram.Far(x.s); e != wanted(x.far) || n != x.far {
			t.Error(i, n, e)
		}
		if n, e := tram.Slowest(x.s); e != wanted(x.slowest) || n != x.slowest {
			t.Error(i, n, e)
		}
	}
}

// P9.5: the examples of the chapter, and places of which several are as good.
func TestHang(t *testing.T) {
	for i, x := range []struct {
		s         api.TramSheet
		at, words int
	}{
		{a(), 6, 1}, {b(), 4, 2}, {d(), 1, 0}, {one(), 1, 1}, {largest(), 1, 0},
		{way(cells(seen(1, 9), seen(2, 9), seen(3, 3)), 3), 2, 1}, {with(way(cells(seen(1, 9), seen(2, 9), seen(3, 3)), 3), func(s *api.TramSheet) { s.Reach = 1 }), 3, 1}, {with(way(cells(seen(3, 9), seen(3, 3), seen(3, 9)), 3), func(s *api.TramSheet) { s.At, s.Reach = 3, 1 }), 1, 1}, {with(way(cells(seen(1, 1), hidden(9, 9), seen(2, 2), seen(9, 9)), 1, 2, 6, 3), func(s *api.TramSheet) { s.At, s.Reach = 1, 4 }), 4, 4}, {with(way(cells(seen(1, 1), seen(9, 9), seen(1, 1)), 5, 5), func(s *api.TramSheet) { s.Reach = 2 }), 2, 2},
		{way(cells(hidden(9, 9), hidden(9, 9), seen(1, 1)), 2), 1, 0}, {way(cells(hidden(9, 9), hidden(9, 9), seen(1, 1)), 1), 3, 1},
	} {
		if at, words, e := tram.Hang(x.s); e != api.OK || at != x.at || words != x.words {
			t.Error(i, at, words, e)
		}
	}
}

// P9.6 and P9.7: the examples of the chapter, words that may not be left out, names that fit without some words, and several lists that are as short.
func TestLeave(t *testing.T) {
	small := cells(seen(2, 2), hidden(1, 1), seen(3, 3))
	for i, x := range []struct {
		s    api.TramSheet
		want []int
		e    api.Errno
	}{
		{a(), l(1), api.OK}, {b(), nil, api.OK}, {c(), nil, api.ErrNone}, {d(), nil, api.ErrNone}, {one(), nil, api.OK}, {largest(), nil, api.ErrNone},
		{freeWay(small, 2, 3), nil, api.OK}, {freeWay(small, 3, 2), l(0), api.OK}, {freeWay(small, 4, 3), l(0), api.OK}, {freeWay(small, 4), nil, api.ErrNone}, {freeWay(small, 4, 4), nil, api.ErrNone}, {freeWay(small, 1, 1, 1, 1), nil, api.OK}, {freeWay(small, 2, 2, 2, 2), l(0, 1), api.OK}, {freeWay(small, 3, 3, 3, 3), l(0, 1, 2), api.OK}, {freeWay(small, 4, 2, 4, 3), l(0, 2), api.OK}, {freeWay(small, 1, 4, 4, 3), l(1, 2), api.OK}, {freeWay(small, 4, 4, 4, 3), l(0, 1, 2), api.OK}, {freeWay(small, 4, 3, 4, 4), l(0, 2, 3), api.OK},
		// a word at the end is enough, but so is one before it
		{freeWay(small, 2, 2, 2), l(0), api.OK}, {freeWay(small, 2, 3, 1), l(1), api.OK}, {freeWay(small, 2, 3, 3), l(1), api.OK},
		// not the word that would be best
		{with(way(small, 2, 2, 2), func(s *api.TramSheet) { s.Name = free(s.Name, 2) }), l(2), api.OK}, {with(way(small, 3, 3, 3), func(s *api.TramSheet) { s.Name = free(s.Name, 0, 2) }), l(0, 2), api.OK}, {with(way(small, 3, 3), func(s *api.TramSheet) { s.Name = free(s.Name, 1) }), l(1), api.OK}, {way(small, 2, 4), nil, api.ErrNone}, {with(way(small, 2, 4), func(s *api.TramSheet) { s.Name = free(s.Name, 0) }), nil, api.ErrNone},
		// the name fits without a word alone
		{with(freeWay(small, 2, 1, 1), func(s *api.TramSheet) { s.Name.Wide, s.Name.Rows = 3, 1 }), l(0), api.OK}, {with(freeWay(small, 2, 1, 1), func(s *api.TramSheet) { s.Name.Wide, s.Name.Rows, s.Name.Words[0].Free = 3, 1, false }), l(1), api.OK}, {with(freeWay(small, 2, 1, 1), func(s *api.TramSheet) { s.Name.Wide, s.Name.Rows = 1, 1 }), l(0, 1), api.OK}, {with(freeWay(small, 2, 2), func(s *api.TramSheet) { s.Name.Wide = 1 }), nil, api.ErrNone},
		// without a word another one is not cut any more
		{with(freeWay(cells(seen(3, 3)), 3, 2), func(s *api.TramSheet) { s.Turn, s.Name = 1, free(cut(bar(4, 2, 3, 2), 0, 1), 1) }), l(1), api.OK},
	} {
		if y, e := tram.Leave(x.s); e != x.e || !slices.Equal(y, x.want) {
			t.Error(i, y, e)
		}
	}
}

// P9.7: what is left out is part of a setting of layer 1, and the needs are those of its setting.
func TestLayerOne(t *testing.T) {
	setting, stretch, e := letter.Set(nameA())
	if e != api.OK || stretch != 9 || !slices.Equal(setting.Ends, []api.LetterEnd{{Word: 0, Letters: 3}, {Word: 1, Letters: 2}}) {
		t.Fatal(setting, stretch, e)
	}
	out, e := tram.Leave(a())
	if e != api.OK || !slices.Equal(out, l(1)) {
		t.Fatal(out, e)
	}
	if fits, e := letter.Fits(nameA(), api.LetterSetting{Out: out, Ends: []api.LetterEnd{{Word: 0, Letters: 3}}}, 0); e != api.OK || !fits {
		t.Fatal(fits, e)
	}
}

// fitting returns sheets on which names fit, with the needs of their words.
func (d *dice) fitting(make func() api.TramSheet) (api.TramSheet, []int) {
	for {
		s := make()
		if needs := modelNeeds(s); needs != nil {
			return s, needs
		}
	}
}

// P9.1 and P9.7: on sheets of any size, by all spans of cells, and letter by letter.
func TestNeedsViewsLikeTheModel(t *testing.T) {
	roll := dice(1)
	unfit, cutWords, several := 0, 0, 0
	for range 3000 {
		s := roll.any()
		needs, want := modelNeeds(s), api.OK
		if needs == nil {
			want = api.ErrRule
			unfit++
		}
		if y, e := tram.Needs(s); e != want || !slices.Equal(y, needs) {
			t.Fatal(s, y, needs, e)
		}
		for word, need := range needs {
			if need > s.Pace*len(s.Name.Words[word].Signs) {
				cutWords++
			}
		}
		views := modelViews(s)
		if y, e := tram.Views(s); e != api.OK || !slices.Equal(y, views) {
			t.Fatal(s, y, views, e)
		}
		if len(views) > 1 {
			several++
		}
	}
	if unfit < 300 || cutWords < 300 || several < 300 {
		t.Error(unfit, cutWords, several)
	}
}

// P9.2: by all rides that somebody could propose.
func TestWordsLikeTheModel(t *testing.T) {
	roll := dice(2)
	words, between := map[api.TramWord]int{}, 0
	for range 1500 {
		s, needs := roll.fitting(roll.tight)
		surelyRead, most := modelWords(s, needs)
		if n, e := tram.Surely(s); e != api.OK || n != surelyRead {
			t.Fatal(s, n, surelyRead, e)
		}
		if n, e := tram.Most(s); e != api.OK || n != most {
			t.Fatal(s, n, most, e)
		}
		for word := range needs {
			want := never
			if word < most {
				want = may
			}
			if word < surelyRead {
				want = surely
			}
			words[want]++
			if w, e := tram.Word(s, word); e != api.OK || w != want {
				t.Fatal(s, word, w, want, e)
			}
		}
		ride := roll.ride(s)
		n, e := tram.Sees(s, ride)
		if e != api.OK || n != modelSees(s, needs, ride) {
			t.Fatal(s, ride, n, e)
		}
		if surelyRead < n && n < most {
			between++
		}
	}
	if words[never] < 300 || words[may] < 300 || words[surely] < 300 || between < 20 {
		t.Error(words, between)
	}
}

// P9.3 and P9.5: by all cells, ticks and places that somebody could propose, and by all rides.
func TestStopHangLikeTheModel(t *testing.T) {
	roll := dice(3)
	none, zero, some, places := 0, 0, 0, map[int]int{}
	for range 1500 {
		s, needs := roll.fitting(roll.tight)
		cell, ticks, found := modelStop(s, needs)
		want := api.OK
		switch {
		case !found:
			want = api.ErrNone
			none++
		case ticks == 0:
			zero++
		default:
			some++
		}
		if c, n, e := tram.Stop(s); e != want || c != cell || n != ticks {
			t.Fatal(s, c, n, cell, ticks, e)
		}
		at, words := modelHang(s, needs)
		if y, n, e := tram.Hang(s); e != api.OK || y != at || n != words {
			t.Fatal(s, y, n, at, words, e)
		}
		places[at]++
	}
	if none < 50 || zero < 300 || some < 300 || len(places) < 5 {
		t.Error(none, zero, some, places)
	}
}

// P9.4: by all Reaches and Paces that somebody could propose, and by all rides.
func TestFarSlowestLikeTheModel(t *testing.T) {
	roll := dice(4)
	seen := map[[2]bool]int{}
	for range 400 {
		s, _ := roll.fitting(roll.small)
		far, slow := 0, 0
		for reach := 12; reach >= 1; reach-- {
			if modelAllRead(with(s, func(s *api.TramSheet) { s.Reach = reach })) {
				far = reach
			}
		}
		for pace := 1; pace <= 9; pace++ {
			if modelAllRead(with(s, func(s *api.TramSheet) { s.Pace = pace })) {
				slow = pace
			}
		}
		if n, e := tram.Far(s); (e == api.OK) != (far > 0) || e != api.OK && e != api.ErrNone || n != far {
			t.Fatal(s, n, far, e)
		}
		if n, e := tram.Slowest(s); (e == api.OK) != (slow > 0) || e != api.OK && e != api.ErrNone || n != slow {
			t.Fatal(s, n, slow, e)
		}
		seen[[2]bool{far > 0, slow > 0}]++
	}
	if len(seen) < 4 {
		t.Error(seen)
	}
}

// P9.6: by all lists of words that somebody could propose, and by all rides; also where the whole name does not fit.
func TestLeaveLikeTheModel(t *testing.T) {
	roll := dice(5)
	lengths, none, unfit := map[int]int{}, 0, 0
	for range 1500 {
		s := roll.sheet(4, 4, 20, 2)
		out, found := modelLeave(s)
		y, e := tram.Leave(s)
		if (e == api.OK) != found || e != api.OK && e != api.ErrNone || !slices.Equal(y, out) {
			t.Fatal(s, y, out, e)
		}
		if !found {
			none++
			continue
		}
		lengths[len(out)]++
		if modelNeeds(s) == nil {
			unfit++
		}
	}
	if lengths[0] < 30 || lengths[1] < 30 || lengths[2] < 30 || lengths[3] < 10 || none < 100 || unfit < 20 {
		t.Error(lengths, none, unfit)
	}
}
