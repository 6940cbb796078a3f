package letter_test

import (
	"math"
	"slices"
	"testing"

	"mahlstick/api"
	"mahlstick/letter"
)

func span(low, high int) api.Span { return api.Span{Low: low, High: high} }

// a returns the sheet a of the chapter.
func a() api.LetterSheet {
	return api.LetterSheet{
		Widths: []int{6, 4, 8},
		Pairs:  []api.LetterPair{{Left: 0, Right: 1, Space: span(1, 3)}, {Left: 2, Right: 0, Space: span(0, 2)}},
		Other:  span(2, 4),
		Gap:    span(5, 8),
		Hyphen: 3,
		Words:  []api.LetterWord{{Signs: []int{2, 0, 1}}, {Signs: []int{0, 2}, Cuts: []int{1}, Free: true}},
		Wide:   21,
		Rows:   2,
	}
}

// with returns a sheet with a change.
func with(s api.LetterSheet, change func(*api.LetterSheet)) api.LetterSheet {
	s = clone(s)
	change(&s)
	return s
}

// b, c and d return the other sheets of the chapter.
func b() api.LetterSheet { return with(a(), func(s *api.LetterSheet) { s.Wide = 18 }) }
func c() api.LetterSheet { return with(a(), func(s *api.LetterSheet) { s.Rows = 1 }) }
func d() api.LetterSheet {
	return with(a(), func(s *api.LetterSheet) { s.Words[1].Signs = []int{0, 1} })
}

// setting returns a setting with rows that end at words with some letters.
func setting(out []int, ends ...int) api.LetterSetting {
	x := api.LetterSetting{Out: out}
	for i := 0; i+1 < len(ends); i += 2 {
		x.Ends = append(x.Ends, api.LetterEnd{Word: ends[i], Letters: ends[i+1]})
	}
	return x
}

// x and y return the settings of the chapter.
func x() api.LetterSetting { return setting(nil, 0, 3, 1, 2) }
func y() api.LetterSetting { return setting(nil, 1, 1, 1, 2) }

// bar returns a sheet with words of one sign that is 1 wide, without spaces: each one has so many letters.
func bar(wide, rows int, letters ...int) api.LetterSheet {
	s := api.LetterSheet{Widths: []int{1}, Hyphen: 1, Wide: wide, Rows: rows}
	for _, n := range letters {
		s.Words = append(s.Words, api.LetterWord{Signs: make([]int, n)})
	}
	return s
}

// free returns a sheet in which some words are free.
func free(s api.LetterSheet, words ...int) api.LetterSheet {
	return with(s, func(s *api.LetterSheet) {
		for _, w := range words {
			s.Words[w].Free = true
		}
	})
}

// cut returns a sheet in which a word has some cuts.
func cut(s api.LetterSheet, word int, cuts ...int) api.LetterSheet {
	return with(s, func(s *api.LetterSheet) { s.Words[word].Cuts = cuts })
}

// largest returns a sheet that has as much of everything as can be.
func largest() api.LetterSheet {
	s := api.LetterSheet{Widths: slices.Repeat([]int{20}, 6), Other: span(9, 9), Gap: span(20, 20), Hyphen: 20, Wide: 400, Rows: 3}
	for right := range 6 {
		s.Pairs = append(s.Pairs, api.LetterPair{Left: 5, Right: right, Space: span(9, 9)})
	}
	for range 4 {
		s.Words = append(s.Words, api.LetterWord{Signs: []int{5, 5, 5, 5, 5, 5}, Cuts: []int{1, 2, 3, 4, 5}, Free: true})
	}
	return s
}

// badSheets returns sheets that are not as defined, each by one change.
func badSheets() []api.LetterSheet {
	bad := []api.LetterSheet{{}}
	for _, change := range []func(*api.LetterSheet){
		func(s *api.LetterSheet) { s.Widths = nil },
		func(s *api.LetterSheet) { s.Widths = []int{1, 1, 1, 1, 1, 1, 1} },
		func(s *api.LetterSheet) { s.Widths[0] = 0 },
		func(s *api.LetterSheet) { s.Widths[2] = 21 },
		func(s *api.LetterSheet) { s.Widths[1] = -1 },
		func(s *api.LetterSheet) { s.Pairs[0].Left = -1 },
		func(s *api.LetterSheet) { s.Pairs[1].Left = 3 },
		func(s *api.LetterSheet) { s.Pairs[0].Right = -1 },
		func(s *api.LetterSheet) { s.Pairs[1].Right = 3 },
		func(s *api.LetterSheet) { s.Pairs[0].Space = span(-1, 0) },
		func(s *api.LetterSheet) { s.Pairs[0].Space = span(0, 10) },
		func(s *api.LetterSheet) { s.Pairs[0].Space = span(3, 2) },
		func(s *api.LetterSheet) { slices.Reverse(s.Pairs) },
		func(s *api.LetterSheet) { s.Pairs[1] = s.Pairs[0] },
		func(s *api.LetterSheet) { s.Pairs[0].Left, s.Pairs[0].Right = 2, 1 },
		func(s *api.LetterSheet) { // in order of Right, not of Left
			s.Pairs = []api.LetterPair{{Left: 1, Right: 0}, {Left: 0, Right: 1}}
		},
		func(s *api.LetterSheet) {
			s.Pairs = []api.LetterPair{{}, {Right: 1}, {Right: 2}, {Left: 1}, {Left: 1, Right: 1}, {Left: 1, Right: 2}, {Left: 2}}
		},
		func(s *api.LetterSheet) { s.Other = span(-1, 4) },
		func(s *api.LetterSheet) { s.Other = span(2, 10) },
		func(s *api.LetterSheet) { s.Other = span(4, 3) },
		func(s *api.LetterSheet) { s.Gap = span(-1, 8) },
		func(s *api.LetterSheet) { s.Gap = span(5, 21) },
		func(s *api.LetterSheet) { s.Gap = span(5, 4) },
		func(s *api.LetterSheet) { s.Hyphen = 0 },
		func(s *api.LetterSheet) { s.Hyphen = 21 },
		func(s *api.LetterSheet) { s.Words = nil },
		func(s *api.LetterSheet) { s.Words = slices.Repeat(s.Words[:1], 5) },
		func(s *api.LetterSheet) { s.Words[0].Signs = nil },
		func(s *api.LetterSheet) { s.Words[1].Signs = make([]int, 7) },
		func(s *api.LetterSheet) { s.Words[0].Signs[2] = 3 },
		func(s *api.LetterSheet) { s.Words[1].Signs[0] = -1 },
		func(s *api.LetterSheet) { s.Words[1].Cuts = []int{0} },
		func(s *api.LetterSheet) { s.Words[1].Cuts = []int{2} },
		func(s *api.LetterSheet) { s.Words[1].Cuts = []int{-1} },
		func(s *api.LetterSheet) { s.Words[0].Cuts = []int{2, 1} },
		func(s *api.LetterSheet) { s.Words[0].Cuts = []int{1, 1} },
		func(s *api.LetterSheet) { s.Words[0].Cuts = []int{1, 2, 3} },
		func(s *api.LetterSheet) { s.Wide = 0 },
		func(s *api.LetterSheet) { s.Wide = 401 },
		func(s *api.LetterSheet) { s.Rows = 0 },
		func(s *api.LetterSheet) { s.Rows = 4 },
	} {
		bad = append(bad, with(a(), change))
	}
	return bad
}

// P1.1: sheets at all limits are as defined.
func TestCheckLimits(t *testing.T) {
	for i, s := range []api.LetterSheet{
		a(), b(), c(), d(), largest(), bar(1, 1, 1),
		with(a(), func(s *api.LetterSheet) { s.Pairs = nil }),
		with(a(), func(s *api.LetterSheet) { s.Pairs = []api.LetterPair{} }),
		with(a(), func(s *api.LetterSheet) { s.Pairs[0].Space, s.Pairs[1].Space = span(0, 0), span(9, 9) }),
		with(a(), func(s *api.LetterSheet) { // in order of Left, not of Right
			s.Pairs = []api.LetterPair{{Left: 0, Right: 2}, {Left: 1, Right: 0}, {Left: 1, Right: 1}, {Left: 2, Right: 0}}
		}),
		with(a(), func(s *api.LetterSheet) { s.Other, s.Gap = span(0, 9), span(0, 20) }),
		with(a(), func(s *api.LetterSheet) { s.Widths = []int{1, 20, 1}; s.Hyphen = 20 }),
		with(a(), func(s *api.LetterSheet) { s.Words[0].Cuts = []int{1, 2} }),
		with(a(), func(s *api.LetterSheet) { s.Words[0].Cuts = []int{} }),
		free(a(), 0, 1),
	} {
		if e := letter.Check(s); e != api.OK {
			t.Error(i, e)
		}
	}
}

// P1.1 to P1.8: all functions return ErrArg, and nothing else, for a sheet that is not as defined.
func TestBadSheets(t *testing.T) {
	for i, s := range badSheets() {
		if e := letter.Check(s); e != api.ErrArg {
			t.Error(i, e)
		}
		if y, e := letter.Widths(s, x(), 0); e != api.ErrArg || len(y) > 0 {
			t.Error(i, y, e)
		}
		if y, e := letter.Places(s, x(), 0); e != api.ErrArg || len(y) > 0 {
			t.Error(i, y, e)
		}
		if is, e := letter.Fits(s, x(), 0); e != api.ErrArg || is {
			t.Error(i, is, e)
		}
		if y, n, e := letter.Set(s); e != api.ErrArg || n != 0 || !sameSetting(y, api.LetterSetting{}) {
			t.Error(i, y, n, e)
		}
		if y, e := letter.Drop(s); e != api.ErrArg || len(y) > 0 {
			t.Error(i, y, e)
		}
		if j, k, e := letter.Alike(s); e != api.ErrArg || j != 0 || k != 0 {
			t.Error(i, j, k, e)
		}
		if text, e := letter.Print(s); e != api.ErrArg || text != "" {
			t.Error(i, text, e)
		}
		for j, f := range []func(api.LetterSheet) (int, api.Errno){letter.Rows, letter.Count, letter.Narrow, letter.Over} {
			if n, e := f(s); e != api.ErrArg || n != 0 {
				t.Error(i, j, n, e)
			}
		}
		if n, e := letter.Stretch(s, x()); e != api.ErrArg || n != 0 {
			t.Error(i, n, e)
		}
	}
}

// refused checks that no function with a stretch takes a setting, or a stretch, that is not as defined.
func refused(t *testing.T, i int, s api.LetterSheet, x api.LetterSetting, stretch int) {
	t.Helper()
	if y, e := letter.Widths(s, x, stretch); e != api.ErrArg || len(y) > 0 {
		t.Error(i, y, e)
	}
	if y, e := letter.Places(s, x, stretch); e != api.ErrArg || len(y) > 0 {
		t.Error(i, y, e)
	}
	if is, e := letter.Fits(s, x, stretch); e != api.ErrArg || is {
		t.Error(i, is, e)
	}
}

// P1.1 and P1.2: settings that are not as defined.
func TestBadSettings(t *testing.T) {
	s := free(a(), 0, 1)
	s.Words = append(s.Words, api.LetterWord{Signs: []int{1, 1, 1}, Cuts: []int{1, 2}})
	all := []int{2, 3}
	for i, x := range []api.LetterSetting{
		{}, setting([]int{0}), setting([]int{1}),
		setting([]int{-1}, all...), setting([]int{3}, all...), setting([]int{2}, 1, 2), setting([]int{1, 0}, all...),
		setting([]int{0, 0}, all...), setting([]int{0, 1, 2}, all...), setting([]int{0, 1, 2}),
		setting(nil, 0, 3), setting(nil, 0, 3, 1, 2), setting(nil, 2, 2), setting(nil, 2, 1, 2, 2), setting(nil, 2, 4), setting(nil, 2, 0), setting(nil, 3, 1), setting(nil, -1, 1, 2, 3),
		setting(nil, 0, 0, 2, 3), setting(nil, 0, 1, 2, 3), setting(nil, 0, 4, 2, 3), setting(nil, 0, -1, 2, 3),
		setting(nil, 1, 2, 0, 3, 2, 3), setting(nil, 1, 2, 1, 1, 2, 3), setting(nil, 1, 1, 1, 1, 2, 3), setting(nil, 2, 3, 2, 3), setting(nil, 2, 3, 2, 1),
		setting([]int{1}, 1, 1, 2, 3), setting([]int{1}, 1, 2, 2, 3), setting([]int{0}, 0, 3, 2, 3), setting([]int{0, 1}, 1, 2, 2, 3),
	} {
		refused(t, i, s, x, 0)
		if n, e := letter.Stretch(s, x); e != api.ErrArg || n != 0 {
			t.Error(i, n, e)
		}
	}
	refused(t, -1, a(), setting([]int{0}, 1, 2), 0) // the word 0 of a is not free
	lone := free(bar(9, 3, 2), 0)
	refused(t, -2, lone, setting([]int{0}), 0)
	for i, stretch := range []int{-1, 11, math.MinInt, math.MaxInt} {
		refused(t, i, a(), x(), stretch)
	}
}

// P1.1: the examples of the chapter, and each kind of space.
func TestWidthsAndPlaces(t *testing.T) {
	three := free(bar(9, 3, 2, 1, 2), 1)
	three.Gap, three.Other = span(3, 3), span(2, 2)
	turned := with(a(), func(s *api.LetterSheet) { s.Words[0].Signs = []int{1, 0, 2} })
	for i, w := range []struct {
		s       api.LetterSheet
		x       api.LetterSetting
		stretch int
		widths  []int
		places  [][]int
	}{
		{a(), x(), 0, []int{19, 16}, [][]int{{0, 8, 15}, {0, 8}}},
		{a(), x(), 4, []int{19, 16}, [][]int{{0, 8, 15}, {0, 8}}},
		{a(), x(), 5, []int{21, 17}, [][]int{{0, 9, 17}, {0, 9}}},
		{a(), x(), 9, []int{21, 17}, [][]int{{0, 9, 17}, {0, 9}}},
		{a(), x(), 10, []int{23, 18}, [][]int{{0, 10, 19}, {0, 10}}},
		{a(), y(), 0, []int{35, 8}, [][]int{{0, 8, 15, 24}, {0}}},
		{a(), y(), 10, []int{23 + 8 + 6 + 4 + 3, 8}, [][]int{{0, 10, 19, 31}, {0}}},
		// two words in one row, with the gap between them though their signs are a pair
		{with(a(), func(s *api.LetterSheet) { s.Words[0].Signs = []int{2} }), setting(nil, 1, 2), 0, []int{8 + 5 + 16}, [][]int{{0, 13, 21}}},
		// a word that is left out, alone and between others
		{a(), setting([]int{1}, 0, 3), 0, []int{19}, [][]int{{0, 8, 15}}},
		{three, setting([]int{1}, 2, 2), 0, []int{4 + 3 + 4}, [][]int{{0, 3, 7, 10}}},
		{three, setting(nil, 2, 2), 0, []int{4 + 3 + 1 + 3 + 4}, [][]int{{0, 3, 7, 11, 14}}},
		// a pair the other way round is none
		{turned, x(), 0, []int{4 + 2 + 6 + 2 + 8, 16}, [][]int{{0, 6, 14}, {0, 8}}},
		// more rows than there is room for
		{a(), setting(nil, 0, 3, 1, 1, 1, 2), 0, []int{19, 11, 8}, [][]int{{0, 8, 15}, {0}, {0}}},
	} {
		if got, e := letter.Widths(w.s, w.x, w.stretch); e != api.OK || !slices.Equal(got, w.widths) {
			t.Error(i, got, e)
		}
		if got, e := letter.Places(w.s, w.x, w.stretch); e != api.OK || !samePlaces(got, w.places) {
			t.Error(i, got, e)
		}
	}
}

// P1.1: each space lies within its bounds, and the last letter, with a hyphen, ends where the row does.
func TestSpacesLieWithinBounds(t *testing.T) {
	roll := dice(2)
	for _, s := range sheets(200) {
		x, stretch := roll.setting(s), roll.upTo(api.LetterStretch)
		places, e := letter.Places(s, x, stretch)
		widths, f := letter.Widths(s, x, stretch)
		rows := shapes(s, x)
		if e != api.OK || f != api.OK || len(places) != len(rows) || len(widths) != len(rows) {
			t.Fatal(s, x, places, widths, e, f)
		}
		for r, row := range rows {
			want, wide := modelPlaces(s, row, stretch)
			if !slices.Equal(places[r], want) || widths[r] != wide {
				t.Fatal(s, x, stretch, r, places[r], want, widths[r], wide)
			}
			for i := 1; i < len(row.letters); i++ {
				space := places[r][i] - places[r][i-1] - s.Widths[row.letters[i-1].sign]
				if of := bounds(s, row.letters[i-1], row.letters[i]); space < of.Low || space > of.High {
					t.Fatal(s, x, stretch, r, i, space)
				}
			}
			last := len(row.letters) - 1
			rest := widths[r] - places[r][last] - s.Widths[row.letters[last].sign]
			if row.hyphen {
				rest -= s.Hyphen + stretched(s.Other, stretch)
			}
			if rest != 0 {
				t.Fatal(s, x, stretch, r, rest)
			}
		}
	}
}

// P1.2: the examples of the chapter, and fronts that are just wide enough.
func TestFitsAndStretch(t *testing.T) {
	wide := func(n, rows int) api.LetterSheet {
		return with(a(), func(s *api.LetterSheet) { s.Wide, s.Rows = n, rows })
	}
	for i, w := range []struct {
		s       api.LetterSheet
		x       api.LetterSetting
		stretch int
		e       api.Errno
	}{
		{a(), x(), 9, api.OK},
		{a(), y(), 0, api.ErrNone},
		{wide(18, 2), x(), 0, api.ErrNone},
		{wide(19, 2), x(), 4, api.OK},
		{wide(20, 2), x(), 4, api.OK},
		{wide(22, 2), x(), 9, api.OK},
		{wide(23, 2), x(), 10, api.OK},
		{wide(400, 1), x(), 0, api.ErrNone},
		{wide(400, 2), setting(nil, 0, 3, 1, 1, 1, 2), 0, api.ErrNone},
		{wide(400, 3), setting(nil, 0, 3, 1, 1, 1, 2), 10, api.OK},
		{wide(400, 1), setting([]int{1}, 0, 3), 10, api.OK},
		{bar(1, 1, 1), setting(nil, 0, 1), 10, api.OK},
	} {
		if n, e := letter.Stretch(w.s, w.x); e != w.e || n != w.stretch {
			t.Error(i, n, e)
		}
		for stretch := range api.LetterStretch + 1 {
			if is, e := letter.Fits(w.s, w.x, stretch); e != api.OK || is != (w.e == api.OK && stretch <= w.stretch) {
				t.Error(i, stretch, is, e)
			}
		}
	}
}

// P1.2: a setting fits with each stretch up to the one that is returned, and with no greater one.
func TestStretchIsGreatest(t *testing.T) {
	roll := dice(3)
	for _, s := range sheets(300) {
		x := roll.setting(s)
		s.Wide = min(api.LetterFront, max(1, slices.Max(modelWidths(s, x, 0))+roll.upTo(16)-4))
		want := modelStretch(s, x)
		n, e := letter.Stretch(s, x)
		if want < 0 && (n != 0 || e != api.ErrNone) || want >= 0 && (n != want || e != api.OK) {
			t.Fatal(s, x, n, e, want)
		}
		for stretch := range api.LetterStretch + 1 {
			if is, e := letter.Fits(s, x, stretch); e != api.OK || is != (stretch <= want) {
				t.Fatal(s, x, stretch, is, e, want)
			}
		}
	}
}

// P1.3: the examples of the chapter, and settings among which the first one is chosen.
func TestRowsAndSet(t *testing.T) {
	tight := free(bar(5, 3, 2, 2, 2), 0, 1, 2)
	tight.Gap = span(0, 5)
	for i, w := range []struct {
		s       api.LetterSheet
		set     api.LetterSetting
		stretch int
		e       api.Errno
	}{
		{a(), x(), 9, api.OK},
		{b(), api.LetterSetting{}, 0, api.ErrNone},
		{c(), api.LetterSetting{}, 0, api.ErrNone},
		// one row is fewer, with narrower spaces
		{with(a(), func(s *api.LetterSheet) { s.Wide = 40 }), setting(nil, 1, 2), 3, api.OK},
		{with(a(), func(s *api.LetterSheet) { s.Wide, s.Rows = 49, 3 }), setting(nil, 1, 2), 10, api.OK},
		{with(a(), func(s *api.LetterSheet) { s.Wide = 39 }), x(), 10, api.OK},
		// both cuts fit: the first one comes first
		{cut(bar(3, 2, 4), 0, 2), setting(nil, 0, 2, 0, 4), 10, api.OK},
		{cut(bar(4, 2, 5), 0, 1, 2, 3), setting(nil, 0, 1, 0, 5), 10, api.OK},
		// a cut that is not needed is left
		{cut(bar(4, 2, 4), 0, 1, 3), setting(nil, 0, 4), 10, api.OK},
		// 2 and 2 in one row, then 2; or 2, then 2 and 2: of as great a stretch the first one
		{tight, setting(nil, 0, 2, 2, 2), 3, api.OK},
		// words that are free are of the whole name, too
		{free(bar(2, 1, 2, 2), 0, 1), api.LetterSetting{}, 0, api.ErrNone},
		{bar(2, 3, 2, 2, 2), setting(nil, 0, 2, 1, 2, 2, 2), 10, api.OK},
		{bar(2, 3, 2, 2, 2, 1), api.LetterSetting{}, 0, api.ErrNone},
	} {
		if got, n, e := letter.Set(w.s); e != w.e || n != w.stretch || !sameSetting(got, w.set) {
			t.Error(i, got, n, e)
		}
		if n, e := letter.Rows(w.s); e != w.e || n != len(w.set.Ends) {
			t.Error(i, n, e)
		}
	}
}

// P1.3: no setting has fewer rows, or as many and wider spaces.
func TestSetIsBest(t *testing.T) {
	found := 0
	for _, s := range sheets(300) {
		want, stretch := modelSet(s)
		x, n, e := letter.Set(s)
		rows, f := letter.Rows(s)
		if stretch < 0 {
			if e != api.ErrNone || f != api.ErrNone || n != 0 || rows != 0 || !sameSetting(x, api.LetterSetting{}) {
				t.Fatal(s, x, n, e, rows, f)
			}
			continue
		}
		found++
		if e != api.OK || f != api.OK || n != stretch || rows != len(want.Ends) || !sameSetting(x, want) {
			t.Fatal(s, x, n, e, rows, f, want, stretch)
		}
	}
	if found < 50 || found > 250 {
		t.Error(found)
	}
}

// P1.4: the examples of the chapter, and a front that would be wider than any.
func TestCountAndNarrow(t *testing.T) {
	long := largest()
	long.Rows = 1
	for i, w := range []struct {
		s             api.LetterSheet
		count, narrow int
	}{
		{a(), 1, 19}, {b(), 0, 19}, {c(), 0, 40},
		{with(a(), func(s *api.LetterSheet) { s.Wide = 40 }), 3, 19},
		{with(a(), func(s *api.LetterSheet) { s.Wide, s.Rows = 40, 3 }), 4, 19},
		{with(a(), func(s *api.LetterSheet) { s.Wide = 35 }), 2, 19},
		{with(a(), func(s *api.LetterSheet) { s.Wide = 34 }), 1, 19},
		{with(c(), func(s *api.LetterSheet) { s.Wide = 40 }), 1, 40},
		// of the five ends before the last one there are none, one, or two
		{cut(cut(bar(9, 3, 3, 3), 0, 1, 2), 1, 1, 2), 1 + 5 + 10, 3},
		{long, 0, 4*(6*20+5*9) + 3*20},
		{bar(1, 1, 1), 1, 1},
	} {
		if n, e := letter.Count(w.s); e != api.OK || n != w.count {
			t.Error(i, n, e)
		}
		if n, e := letter.Narrow(w.s); e != api.OK || n != w.narrow {
			t.Error(i, n, e)
		}
	}
}

// P1.4: with a front as wide as is returned the whole name fits, and with no narrower one.
func TestNarrowIsLeast(t *testing.T) {
	for _, s := range sheets(200) {
		if n, e := letter.Count(s); e != api.OK || n != modelCount(s, nil) {
			t.Fatal(s, n, e)
		}
		narrow, e := letter.Narrow(s)
		if e != api.OK || narrow != modelNarrow(s) {
			t.Fatal(s, narrow, e)
		}
		if narrow > api.LetterFront {
			continue
		}
		s.Wide = narrow
		if n, e := letter.Count(s); e != api.OK || n == 0 {
			t.Fatal(s, n, e)
		}
		if s.Wide = narrow - 1; s.Wide > 0 {
			if n, e := letter.Count(s); e != api.OK || n != 0 {
				t.Fatal(s, n, e)
			}
		}
	}
}

// P1.5: the examples of the chapter, and lists among which the first of the shortest is chosen.
func TestDrop(t *testing.T) {
	for i, w := range []struct {
		s   api.LetterSheet
		out []int
		e   api.Errno
	}{
		{a(), nil, api.OK}, {b(), nil, api.ErrNone}, {c(), []int{1}, api.OK},
		{free(c(), 0), []int{0}, api.OK},
		{free(b(), 0), []int{0}, api.OK},
		{bar(2, 1, 2, 2), nil, api.ErrNone},
		// any one would do, but not all are free
		{free(bar(4, 1, 2, 2, 2), 1, 2), []int{1}, api.OK},
		{free(bar(4, 1, 2, 2, 2), 2), []int{2}, api.OK},
		// the long one alone is a shorter list than both others before it
		{free(bar(4, 1, 2, 2, 4), 0, 1, 2), []int{2}, api.OK},
		{free(bar(4, 1, 1, 1, 6, 2), 0, 1, 2, 3), []int{2}, api.OK},
		// two must go: the first two that are enough
		{free(bar(4, 1, 1, 3, 2, 2), 0, 1, 2, 3), []int{0, 1}, api.OK},
		{free(bar(3, 1, 1, 3, 2, 2), 0, 1, 2, 3), []int{1, 2}, api.OK},
		{free(bar(1, 1, 1, 3, 2, 2), 0, 1, 2, 3), []int{1, 2, 3}, api.OK},
		// all cannot be left out
		{free(bar(1, 3, 2), 0), nil, api.ErrNone},
		{free(bar(1, 3, 2, 2), 0, 1), nil, api.ErrNone},
	} {
		if got, e := letter.Drop(w.s); e != w.e || !slices.Equal(got, w.out) {
			t.Error(i, got, e)
		}
	}
}

// P1.5: no shorter list is enough.
func TestDropIsShortest(t *testing.T) {
	roll := dice(4)
	none, some := 0, 0
	for _, s := range sheets(200) {
		s.Wide = max(1, s.Wide-roll.upTo(30))
		want, is := modelDrop(s)
		got, e := letter.Drop(s)
		if !is && (e != api.ErrNone || len(got) > 0) || is && (e != api.OK || !slices.Equal(got, want)) {
			t.Fatal(s, got, e, want, is)
		}
		if !is {
			none++
		} else if len(want) > 0 {
			some++
		}
	}
	if none < 20 || some < 20 {
		t.Error(none, some)
	}
}

// P1.6: the examples of the chapter, and names of which nothing is left.
func TestOver(t *testing.T) {
	for i, w := range []struct {
		s    api.LetterSheet
		over int
	}{
		{a(), 0}, {b(), 3}, {c(), 2},
		{with(a(), func(s *api.LetterSheet) { s.Wide = 14 }), 3},
		{with(a(), func(s *api.LetterSheet) { s.Wide = 13 }), 4},
		{with(a(), func(s *api.LetterSheet) { s.Wide = 7 }), 5},
		{bar(1, 1, 1), 0}, {bar(3, 1, 6), 3}, {bar(3, 2, 4, 2), 3}, {free(bar(3, 1, 2, 3), 1), 2},
		// 1 and a hyphen, then 2: the cut after the third letter is none of a word that has three
		{cut(bar(2, 2, 4), 0, 1, 3), 1},
		{cut(bar(2, 2, 4), 0, 2), 2},
		{cut(bar(2, 3, 2, 5), 1, 1, 3), 2},
		{with(bar(1, 3, 1), func(s *api.LetterSheet) { s.Widths[0] = 2 }), 1},
		{with(bar(1, 3, 6, 6, 6, 6), func(s *api.LetterSheet) { s.Widths[0] = 2 }), 24},
	} {
		if n, e := letter.Over(w.s); e != api.OK || n != w.over {
			t.Error(i, n, e)
		}
	}
}

// P1.6: without as many last letters a name fits, and without fewer it does not.
func TestOverIsLeast(t *testing.T) {
	roll := dice(5)
	for _, s := range sheets(200) {
		s.Wide = max(1, s.Wide-roll.upTo(30))
		over, e := letter.Over(s)
		if e != api.OK || over != modelOver(s) {
			t.Fatal(s, over, e, modelOver(s))
		}
		short := s
		for left := over; left > 0; left-- {
			if n, e := letter.Count(short); e != api.OK || n != 0 {
				t.Fatal(s, over, left, n, e)
			}
			short = clipped(short)
		}
		if n, e := letter.Count(short); len(short.Words) > 0 && (e != api.OK || n == 0) {
			t.Fatal(s, over, n, e)
		}
	}
}

// P1.7: the examples of the chapter, and which words are named of several.
func TestAlike(t *testing.T) {
	words := func(all ...[]int) api.LetterSheet {
		return with(a(), func(s *api.LetterSheet) {
			s.Words = nil
			for _, signs := range all {
				s.Words = append(s.Words, api.LetterWord{Signs: signs})
			}
		})
	}
	for i, w := range []struct {
		s          api.LetterSheet
		one, other int
		e          api.Errno
	}{
		{a(), 0, 0, api.ErrNone}, {d(), 0, 1, api.OK},
		{words([]int{0}), 0, 0, api.ErrNone},
		{words([]int{0}, []int{0}), 0, 1, api.OK},
		{words([]int{0}, []int{1}), 0, 0, api.ErrNone}, // nothing may be left of neither
		{words([]int{0}, []int{1, 0}), 0, 1, api.OK},
		{words([]int{0}, []int{0, 1}), 0, 1, api.OK},
		{words([]int{0}, []int{1, 2}), 0, 0, api.ErrNone},
		{words([]int{0, 1}, []int{1, 2}), 0, 1, api.OK},
		{words([]int{0, 1}, []int{1, 0}), 0, 1, api.OK},
		{words([]int{0, 1, 2}, []int{2, 1, 0}), 0, 0, api.ErrNone}, // the order counts
		{words([]int{0, 1, 2}, []int{0, 2, 2}), 0, 1, api.OK},
		{words([]int{0, 1, 2, 0}, []int{1, 2, 0, 1}), 0, 1, api.OK},
		{words([]int{0, 0}, []int{0, 0, 0}), 0, 1, api.OK},
		{words([]int{0, 0}, []int{0, 0, 0, 0}), 0, 0, api.ErrNone}, // two of one word
		{words([]int{0}, []int{1, 1}, []int{2, 2}, []int{2, 1, 2}), 2, 3, api.OK},
		{words([]int{0, 0, 0}, []int{1}, []int{1}, []int{0, 0}), 0, 3, api.OK},
		{words([]int{0, 0}, []int{1, 1}, []int{1, 1}, []int{0, 0}), 0, 3, api.OK},
		{words([]int{1, 1}, []int{0, 0}, []int{0, 0}, []int{0, 0}), 1, 2, api.OK},
		{words([]int{0}, []int{0}, []int{0}, []int{0}), 0, 1, api.OK},
		// widths and cuts are nothing to look at
		{with(words([]int{0, 1, 2}, []int{2, 1, 0}), func(s *api.LetterSheet) { s.Widths = []int{5, 5, 5} }), 0, 0, api.ErrNone},
	} {
		if one, other, e := letter.Alike(w.s); e != w.e || one != w.one || other != w.other {
			t.Error(i, one, other, e)
		}
	}
}

// P1.7: whatever letters have fallen off, if two words look the same, two are named.
func TestAlikeNamesTheFirst(t *testing.T) {
	none := 0
	for _, s := range sheets(2000) {
		i, j, is := modelFirstAlike(s)
		one, other, e := letter.Alike(s)
		if one != i || other != j || is != (e == api.OK) || !is && e != api.ErrNone {
			t.Fatal(s, one, other, e, i, j, is)
		}
		if !is {
			none++
		}
	}
	if none < 100 || none > 1900 {
		t.Error(none)
	}
}

// P1.9: on a wider front, with more rows, or with a cut more, a name that fit still does, in no more rows.
func TestConsequences(t *testing.T) {
	for _, s := range sheets(200) {
		rows, e := letter.Rows(s)
		if e != api.OK {
			continue
		}
		more := []api.LetterSheet{}
		if s.Wide < api.LetterFront {
			more = append(more, with(s, func(s *api.LetterSheet) { s.Wide++ }), with(s, func(s *api.LetterSheet) { s.Wide = api.LetterFront }))
		}
		if s.Rows < api.LetterRows {
			more = append(more, with(s, func(s *api.LetterSheet) { s.Rows++ }))
		}
		for w, word := range s.Words {
			for n := 1; n < len(word.Signs); n++ {
				if i, is := slices.BinarySearch(word.Cuts, n); !is {
					more = append(more, cut(s, w, slices.Insert(slices.Clone(word.Cuts), i, n)...))
				}
			}
		}
		for _, m := range more {
			if n, e := letter.Rows(m); e != api.OK || n > rows {
				t.Fatal(s, m, n, e, rows)
			}
			if n, e := letter.Over(m); e != api.OK || n != 0 {
				t.Fatal(s, m, n, e)
			}
			if out, e := letter.Drop(m); e != api.OK || len(out) > 0 {
				t.Fatal(s, m, out, e)
			}
		}
	}
}
