package tram_test

import (
	"math"
	"slices"
	"testing"

	"mahlstick/api"
	"mahlstick/letter"
	"mahlstick/tram"
)

// surelyOf returns how many words of a sheet are surely read, which must be so that it can be asked.
func surelyOf(t *testing.T, s api.TramSheet) int {
	t.Helper()
	n, e := tram.Surely(s)
	if e != api.OK {
		t.Fatal(s, n, e)
	}
	return n
}

// P9.1: each cell from which the board is in reach is in one view, or is hidden; and no other cell is in any.
func TestEachCellIsInOneView(t *testing.T) {
	roll := dice(6)
	for range 3000 {
		s := roll.any()
		views, e := tram.Views(s)
		if e != api.OK {
			t.Fatal(s, views, e)
		}
		for cell := range s.Cells {
			within := 0
			for _, view := range views {
				if view.Low <= cell && cell <= view.High {
					within++
				}
			}
			if within > 1 || (within == 1) != isSeen(s, cell) {
				t.Fatal(s, views, cell)
			}
		}
	}
}

// P9.2 and P0.9: in a ride that somebody proposes as many words are read as surely are, or more, and not more than at most; and each word as is said of it.
func TestRidesAreAsIsSaid(t *testing.T) {
	roll := dice(7)
	least, most := 0, 0
	for range 3000 {
		s, needs := roll.fitting(roll.any)
		atLeast := surelyOf(t, s)
		atMost, e := tram.Most(s)
		if e != api.OK || atMost < atLeast || atMost > len(needs) {
			t.Fatal(s, atLeast, atMost, e)
		}
		ride := roll.ride(s)
		n, e := tram.Sees(s, ride)
		if e != api.OK || n < atLeast || n > atMost {
			t.Fatal(s, ride, n, atLeast, atMost, e)
		}
		for word := range needs {
			w, e := tram.Word(s, word)
			if e != api.OK || w == surely && word >= n || w == never && word < n {
				t.Fatal(s, ride, word, w, n, e)
			}
		}
		if atLeast < atMost && n == atLeast {
			least++
		}
		if atLeast < atMost && n == atMost {
			most++
		}
	}
	if least < 100 || most < 100 {
		t.Error(least, most)
	}
}

// leastRide returns the ride of a sheet with the least ticks.
func leastRide(s api.TramSheet) []int {
	var ride []int
	for _, cell := range s.Cells {
		ride = append(ride, cell.Ticks.Low)
	}
	return ride
}

// P9.3: if the tram waits as long there, all words are surely read, and if it waits less anywhere, or as long at a cell before it, they are not.
func TestWaitsAreAsShortAsCanBe(t *testing.T) {
	roll := dice(8)
	long := 0
	for range 1500 {
		s, needs := roll.fitting(roll.any)
		cell, ticks, e := tram.Stop(s)
		if (e == api.OK) != (len(modelViews(s)) > 0) {
			t.Fatal(s, cell, ticks, e)
		}
		if e != api.OK {
			continue
		}
		// a cell may take more ticks then than it can in a sheet
		read := func(cell, ticks int) bool {
			x := waits(s, cell, ticks)
			return modelSees(x, needs, leastRide(x)) == len(needs)
		}
		if !read(cell, ticks) {
			t.Fatal(s, cell, ticks)
		}
		for other := range s.Cells {
			if ticks > 0 && read(other, ticks-1) || other < cell && read(other, ticks) {
				t.Fatal(s, cell, ticks, other)
			}
		}
		if ticks > api.TramTicks {
			long++
		}
	}
	if long < 100 {
		t.Error(long)
	}
}

// P9.4: with a Reach, or a Pace, that somebody proposes all words are surely read just if it is no less, or no greater, than what is returned.
func TestFarAndSlowestAreBounds(t *testing.T) {
	roll := dice(9)
	reached, paced := 0, 0
	for range 800 {
		s, needs := roll.fitting(roll.any)
		far, e := tram.Far(s)
		for reach := 1; reach <= api.TramCells; reach++ {
			all := surelyOf(t, with(s, func(s *api.TramSheet) { s.Reach = reach })) == len(needs)
			if all != (e == api.OK && reach >= far) {
				t.Fatal(s, far, reach, e)
			}
		}
		slowest, f := tram.Slowest(s)
		for pace := 1; pace <= api.TramPace; pace++ {
			all := surelyOf(t, with(s, func(s *api.TramSheet) { s.Pace = pace })) == len(needs)
			if all != (f == api.OK && pace <= slowest) {
				t.Fatal(s, slowest, pace, f)
			}
		}
		if far > 1 {
			reached++
		}
		if slowest > 1 {
			paced++
		}
	}
	if reached < 100 || paced < 100 {
		t.Error(reached, paced)
	}
}

// P9.5: at no place that somebody proposes more words are surely read, nor as many at one before it.
func TestNoPlaceIsBetter(t *testing.T) {
	roll := dice(10)
	better := 0
	for range 800 {
		s, _ := roll.fitting(roll.any)
		at, words, e := tram.Hang(s)
		if e != api.OK {
			t.Fatal(s, at, words, e)
		}
		for place := 1; place <= len(s.Cells); place++ {
			n := surelyOf(t, with(s, func(s *api.TramSheet) { s.At = place }))
			if n > words || n == words && place < at || place == at && n != words {
				t.Fatal(s, at, words, place, n)
			}
		}
		if words > surelyOf(t, s) {
			better++
		}
	}
	if better < 50 {
		t.Error(better)
	}
}

// P9.6 and P9.7: without the words that are left out all others are surely read; layer 1 lets them be left out, and sets the others; no fewer words, and none that come before, are enough.
func TestNoFewerWordsAreEnough(t *testing.T) {
	roll := dice(11)
	left := 0
	for range 1500 {
		s := roll.any()
		out, e := tram.Leave(s)
		for _, other := range modelOuts(s) {
			x := leaving(s, other)
			n, f := tram.Surely(x)
			enough := f == api.OK && n == len(x.Name.Words)
			if e == api.OK && slices.Equal(out, other) {
				if !enough {
					t.Fatal(s, out, n, f)
				}
				break
			}
			if enough {
				t.Fatal(s, out, e, other)
			}
		}
		if e == api.OK && len(out) > 0 {
			left++
			mustBeLeft(t, s.Name, out)
		}
	}
	if left < 200 {
		t.Error(left)
	}
}

// mustBeLeft checks that some setting of layer 1 without some words fits; its Ends are those of the setting of the name without them.
func mustBeLeft(t *testing.T, name api.LetterSheet, out []int) {
	t.Helper()
	x, _, e := letter.Set(leaving(api.TramSheet{Name: name}, out).Name)
	if e != api.OK {
		t.Fatal(name, out, e)
	}
	setting := api.LetterSetting{Out: out}
	var kept []int
	for word := range name.Words {
		if !slices.Contains(out, word) {
			kept = append(kept, word)
		}
	}
	for _, end := range x.Ends {
		setting.Ends = append(setting.Ends, api.LetterEnd{Word: kept[end.Word], Letters: end.Letters})
	}
	if fits, e := letter.Fits(name, setting, 0); e != api.OK || !fits {
		t.Fatal(name, setting, fits, e)
	}
}

// P9.7: what words need is what the setting of layer 1 says: together, all letters times the Pace, and each hyphen times the Turn.
func TestNeedsAreThoseOfTheSetting(t *testing.T) {
	roll := dice(12)
	hyphens := 0
	for range 2000 {
		s, _ := roll.fitting(roll.any)
		needs, e := tram.Needs(s)
		setting, _, f := letter.Set(s.Name)
		if e != api.OK || f != api.OK || len(needs) != len(s.Name.Words) {
			t.Fatal(s, needs, setting, e, f)
		}
		all := 0
		for _, word := range s.Name.Words {
			all += s.Pace * len(word.Signs)
		}
		for _, end := range setting.Ends {
			if end.Letters < len(s.Name.Words[end.Word].Signs) {
				all += s.Turn
				hyphens++
			}
		}
		if total(needs) != all {
			t.Fatal(s, needs, setting)
		}
	}
	if hyphens < 200 {
		t.Error(hyphens)
	}
}

// easier returns a sheet and a ride in which more can be read: with more ticks in a cell, one that is hidden no longer, a greater Reach, or a lesser Pace.
func (d *dice) easier(s api.TramSheet, ride []int) (api.TramSheet, []int) {
	s, ride = clone(s), slices.Clone(ride)
	cell := d.upTo(len(ride) - 1)
	switch d.upTo(3) {
	case 0:
		its := &s.Cells[cell].Ticks
		more := d.upTo(api.TramTicks - its.High)
		its.Low, its.High, ride[cell] = its.Low+more, its.High+more, ride[cell]+more
	case 1:
		s.Cells[cell].Hidden = false
	case 2:
		s.Reach += d.upTo(api.TramCells - s.Reach)
	default:
		s.Pace -= d.upTo(s.Pace - 1)
	}
	return s, ride
}

// P9.9: what is easier never makes fewer words be read.
func TestEasierIsNoLess(t *testing.T) {
	roll := dice(13)
	greater := 0
	for i := range 3000 {
		s, _ := roll.fitting(roll.any)
		if i%2 == 0 {
			s, _ = roll.fitting(roll.tight)
		}
		ride := roll.ride(s)
		other, longer := roll.easier(s, ride)
		before, _ := tram.Sees(s, ride)
		after, e := tram.Sees(other, longer)
		if e != api.OK || after < before || surelyOf(t, other) < surelyOf(t, s) {
			t.Fatal(s, ride, other, longer, before, after, e)
		}
		most, _ := tram.Most(s)
		if n, e := tram.Most(other); e != api.OK || n < most {
			t.Fatal(s, other, most, n, e)
		}
		for word := range s.Name.Words {
			w, _ := tram.Word(s, word)
			if x, e := tram.Word(other, word); e != api.OK || x < w {
				t.Fatal(s, other, word, w, x, e)
			}
		}
		if after > before {
			greater++
		}
	}
	if greater < 200 {
		t.Error(greater)
	}
}

// callAll calls everything with some arguments; it is there to see that nothing panics, hangs, or changes them.
func callAll(s api.TramSheet, ride []int, word int, text string) {
	tram.Check(s)
	for _, of := range numbers() {
		of(s)
	}
	for _, of := range twos() {
		of(s)
	}
	for _, of := range lists() {
		of(s)
	}
	tram.Views(s)
	tram.Sees(s, ride)
	tram.Word(s, word)
	tram.Print(s)
	tram.Read(text)
}

// wild returns numbers of which many are far out of range.
func (d *dice) wild() int {
	far := []int{math.MinInt, math.MaxInt, -1, 0, 1, 2, 3, 5, 6, 7, 9, 10, 12, 13, 20, 21, 400, 1 << 40}
	return far[d.upTo(len(far)-1)]
}

// wildList returns a list of such numbers.
func (d *dice) wildList() []int {
	var list []int
	for range d.upTo(7) {
		list = append(list, d.wild())
	}
	return list
}

// spoil changes some of a sheet into anything.
func (d *dice) spoil(s *api.TramSheet) {
	for range 1 + d.upTo(2) {
		switch d.upTo(9) {
		case 0:
			s.Cells = append(s.Cells, seen(d.wild(), d.wild()))
		case 1:
			s.Cells = s.Cells[:d.upTo(len(s.Cells))]
		case 2:
			s.At = d.wild()
		case 3:
			s.Reach = d.wild()
		case 4:
			s.Pace = d.wild()
		case 5:
			s.Turn = d.wild()
		case 6:
			s.Name.Words = append(s.Name.Words, api.LetterWord{Signs: d.wildList(), Cuts: d.wildList(), Free: true})
		case 7:
			s.Name.Words = s.Name.Words[:d.upTo(len(s.Name.Words))]
		case 8:
			s.Name.Wide, s.Name.Rows = d.wild(), d.wild()
		case 9:
			*s = api.TramSheet{}
		}
	}
}

// P0.12: no function panics, whatever its arguments.
func TestAnyArguments(t *testing.T) {
	roll := dice(14)
	callAll(api.TramSheet{}, nil, 0, "")
	callAll(api.TramSheet{Cells: cells(seen(1, 1)), At: 1, Reach: 1, Pace: 1}, l(1), 0, "end 000\n")
	callAll(largest(), slices.Repeat(l(20), 12), math.MaxInt, "\nend 000\n")
	callAll(slowest(seen(20, 20)), l(math.MinInt), math.MinInt, "\nend \n\nend \n")
	for range 1500 {
		s := roll.any()
		text, _ := tram.Print(s)
		at := roll.upTo(len(text) - 1)
		ride, word := roll.ride(s), roll.upTo(len(s.Name.Words)-1)
		if roll.upTo(1) == 0 {
			roll.spoil(&s)
		}
		if roll.upTo(2) == 0 {
			ride = roll.wildList()
		}
		if roll.upTo(2) == 0 {
			word = roll.wild()
		}
		callAll(s, ride, word, text[:at]+string(rune(roll.upTo(300)))+text[at:])
	}
}

// R3: nil and empty lists are the same: there is no sheet without cells, and no ride without ticks.
func TestEmptyLists(t *testing.T) {
	for _, none := range [][]int{nil, {}} {
		refuseRide(t, one(), none, api.ErrArg)
		for _, all := range [][]api.TramCell{nil, {}} {
			refuseRide(t, with(one(), func(s *api.TramSheet) { s.Cells = all }), none, api.ErrArg)
		}
		if n, e := tram.Surely(with(one(), func(s *api.TramSheet) { s.Name.Pairs, s.Name.Words[0].Cuts = []api.LetterPair{}, none })); e != api.OK || n != 1 {
			t.Error(n, e)
		}
	}
}

// R4: no argument is changed, nor what follows it in its memory.
func TestArgumentsStay(t *testing.T) {
	roll := dice(15)
	for range 300 {
		whole := roll.any()
		cells, words := len(whole.Cells), len(whole.Name.Words)
		ride := append(roll.ride(whole), 77, 78)
		whole.Cells = append(whole.Cells, seen(71, 72), hidden(73, 74))
		whole.Name.Words = append(whole.Name.Words, api.LetterWord{Signs: l(75), Cuts: l(76)}, api.LetterWord{Signs: l(77), Free: true})
		before, ride2 := clone(whole), slices.Clone(ride)
		s := whole
		s.Cells, s.Name.Words = whole.Cells[:cells], whole.Name.Words[:words]
		if e := tram.Check(s); e != api.OK {
			t.Fatal(s, e)
		}
		callAll(s, ride[:cells], 0, "")
		if !sameSheet(whole, before) || !slices.Equal(ride, ride2) {
			t.Fatal(whole, before, ride, ride2)
		}
	}
}

// R4 and R8: results share no memory with arguments or with each other, and are the same each time.
func TestResultsStay(t *testing.T) {
	s, ride := a(), l(3, 2, 2, 4, 5, 1)
	for i := range 3 {
		needs, e := tram.Needs(s)
		if e != api.OK || !slices.Equal(needs, l(6, 4)) {
			t.Fatal(i, needs, e)
		}
		views, e := tram.Views(s)
		if e != api.OK || !slices.Equal(views, spans(span(1, 1), span(3, 5))) {
			t.Fatal(i, views, e)
		}
		out, e := tram.Leave(s)
		if e != api.OK || !slices.Equal(out, l(1)) {
			t.Fatal(i, out, e)
		}
		again, e := tram.Read(oneText)
		if e != api.OK || !sameSheet(again, one()) {
			t.Fatal(i, again, e)
		}
		if n, e := tram.Sees(s, ride); e != api.OK || n != 2 {
			t.Fatal(i, n, e)
		}
		if cell, ticks, e := tram.Stop(s); e != api.OK || cell != 1 || ticks != 4 {
			t.Fatal(i, cell, ticks, e)
		}
		needs[0], views[0], out[0], again.Cells[0], again.Name.Words[0].Signs[0] = 99, span(99, 99), 99, hidden(99, 99), 99
	}
	if !sameSheet(s, a()) || !slices.Equal(ride, l(3, 2, 2, 4, 5, 1)) {
		t.Error(s, ride)
	}
}
