package letter_test

import (
	"math"
	"slices"
	"testing"

	"mahlstick/api"
	"mahlstick/letter"
)

// P0.1: a name is set in the fewest rows with the widest spaces, or it is told by how many letters it is too long.
func TestNamesAreSetOrTooLong(t *testing.T) {
	for _, s := range append(sheets(200), a(), b(), c(), d()) {
		x, stretch, e := letter.Set(s)
		over, f := letter.Over(s)
		if f != api.OK || (e == api.OK) != (over == 0) || e != api.OK && e != api.ErrNone {
			t.Fatal(s, x, stretch, e, over, f)
		}
		if is, f := letter.Fits(s, x, stretch); e == api.OK && (f != api.OK || !is) {
			t.Fatal(s, x, stretch, f)
		}
	}
}

// all calls everything with some arguments; it is there to see that nothing panics, hangs, or changes them.
func all(s api.LetterSheet, x api.LetterSetting, stretch int, text string) {
	letter.Check(s)
	letter.Widths(s, x, stretch)
	letter.Fits(s, x, stretch)
	letter.Stretch(s, x)
	letter.Places(s, x, stretch)
	letter.Rows(s)
	letter.Set(s)
	letter.Count(s)
	letter.Narrow(s)
	letter.Drop(s)
	letter.Over(s)
	letter.Alike(s)
	letter.Print(s)
	letter.Read(text)
}

// wild returns numbers of which many are far out of range.
func (d *dice) wild() int {
	far := []int{math.MinInt, math.MaxInt, -1, 0, 1, 2, 3, 7, 10, 11, 20, 21, 400, 401, 1 << 40}
	return far[d.upTo(len(far)-1)]
}

func (d *dice) wildList() []int {
	var list []int
	for range d.upTo(8) {
		list = append(list, d.wild())
	}
	return list
}

// spoil changes some numbers of a sheet and a setting into any.
func (d *dice) spoil(s *api.LetterSheet, x *api.LetterSetting) {
	wild := func() api.Span { return span(d.wild(), d.wild()) }
	for range 1 + d.upTo(2) {
		switch d.upTo(12) {
		case 0:
			s.Widths = d.wildList()
		case 1:
			s.Pairs = append(s.Pairs, api.LetterPair{Left: d.wild(), Right: d.wild(), Space: wild()})
		case 2:
			s.Other = wild()
		case 3:
			s.Gap = wild()
		case 4:
			s.Hyphen = d.wild()
		case 5:
			s.Words = append(s.Words, api.LetterWord{Signs: d.wildList(), Cuts: d.wildList()})
		case 6:
			s.Words = nil
		case 7:
			s.Wide = d.wild()
		case 8:
			s.Rows = d.wild()
		case 9:
			x.Out = d.wildList()
		case 10:
			x.Ends = append(x.Ends, api.LetterEnd{Word: d.wild(), Letters: d.wild()})
		case 11:
			x.Ends = slices.Insert(x.Ends, 0, api.LetterEnd{Word: d.wild(), Letters: d.wild()})
		case 12:
			s.Words[0].Cuts = d.wildList()
		}
		if len(s.Words) == 0 {
			return
		}
	}
}

// P0.12: no function panics, whatever its arguments.
func TestAnyArguments(t *testing.T) {
	roll := dice(6)
	all(api.LetterSheet{}, api.LetterSetting{}, 0, "")
	all(largest(), setting(nil, 3, 6), math.MaxInt, "end")
	for _, s := range sheets(500) {
		x := roll.setting(s)
		s = clone(s)
		text, _ := letter.Print(s)
		at := roll.upTo(len(text) - 1)
		roll.spoil(&s, &x)
		all(s, x, roll.wild(), text[:at]+string(rune(roll.upTo(300)))+text[at:])
	}
}

// R3: nil and empty lists are the same.
func TestEmptyLists(t *testing.T) {
	empty := with(bar(5, 1, 2), func(s *api.LetterSheet) { s.Pairs = []api.LetterPair{}; s.Words[0].Cuts = []int{} })
	for i, s := range []api.LetterSheet{bar(5, 1, 2), empty} {
		for j, x := range []api.LetterSetting{setting(nil, 0, 2), setting([]int{}, 0, 2)} {
			if got, e := letter.Widths(s, x, 0); e != api.OK || !slices.Equal(got, []int{2}) {
				t.Error(i, j, got, e)
			}
		}
		if text, e := letter.Print(s); e != api.OK || text != sealed("front 5 1", "spaces 0 0 0 0 1", "sign 1", "word no 0,0 -") {
			t.Error(i, text, e)
		}
	}
}

// R4: no argument is changed.
func TestArgumentsStay(t *testing.T) {
	roll := dice(7)
	for _, s := range sheets(200) {
		x := roll.setting(s)
		before, ends, out := clone(s), slices.Clone(x.Ends), slices.Clone(x.Out)
		all(s, x, roll.upTo(api.LetterStretch), "")
		if !sameSheet(s, before) || !sameSetting(x, api.LetterSetting{Out: out, Ends: ends}) {
			t.Fatal(before, s, out, ends, x)
		}
	}
}

// R4 and R8: results share no memory with arguments or with each other, and are the same each time.
func TestResultsStay(t *testing.T) {
	s := free(bar(4, 2, 3, 3, 2), 1)
	for i := range 3 {
		set, n, e := letter.Set(free(bar(6, 2, 3, 3, 2), 1))
		if e != api.OK || n != 10 || !sameSetting(set, setting(nil, 0, 3, 2, 2)) {
			t.Fatal(i, set, n, e)
		}
		set.Ends[0].Word = 9
		out, e := letter.Drop(with(s, func(s *api.LetterSheet) { s.Wide = 3 }))
		if e != api.OK || !slices.Equal(out, []int{1}) {
			t.Fatal(i, out, e)
		}
		out[0] = 9
		places, e := letter.Places(s, setting(nil, 0, 3, 1, 3, 2, 2), 0)
		if e != api.OK || !samePlaces(places, [][]int{{0, 1, 2}, {0, 1, 2}, {0, 1}}) {
			t.Fatal(i, places, e)
		}
		places[0] = append(places[0], 9)
		if !slices.Equal(places[1], []int{0, 1, 2}) {
			t.Fatal(i, places)
		}
		places[1][0] = 9
		widths, e := letter.Widths(s, setting(nil, 0, 3, 1, 3, 2, 2), 0)
		if e != api.OK || !slices.Equal(widths, []int{3, 3, 2}) {
			t.Fatal(i, widths, e)
		}
		widths[0] = 9
		again, e := letter.Read(one)
		if e != api.OK || !sameSheet(again, bar(1, 1, 1)) {
			t.Fatal(i, again, e)
		}
		again.Widths[0], again.Words[0].Signs[0] = 9, 9
	}
}
