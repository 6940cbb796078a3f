package sight_test

import (
	"math"
	"slices"
	"testing"

	"mahlstick/api"
	"mahlstick/sight"
)

// seenFrom returns whether a board is seen from each place of a street, in the order of the places.
func seenFrom(t *testing.T, x api.SightStreet, number int) []api.SightWord {
	t.Helper()
	var all []api.SightWord
	for _, from := range modelPlaces(x) {
		w, e := sight.Seen(x, number, from)
		if e != api.OK {
			t.Fatal(x, number, from, e)
		}
		all = append(all, w)
	}
	return all
}

// notLess checks that with a change no board is read less, from any place.
func notLess(t *testing.T, x, better api.SightStreet) {
	t.Helper()
	for number := range x.Boards {
		before, after := seenFrom(t, x, number), seenFrom(t, better, number)
		for i := range before {
			if after[i] < before[i] {
				t.Fatal(x, better, number, modelPlaces(x)[i], before[i], after[i])
			}
		}
		n, m, _ := sight.Many(x, number)
		if n2, m2, e := sight.Many(better, number); e != api.OK || n2 < n || m2 < m {
			t.Fatal(x, better, number, n, m, n2, m2, e)
		}
	}
}

// P2.8 and P0.2: larger letters, better eyes, more light, and a block less never make less be read.
func TestMoreIsNeverLess(t *testing.T) {
	roll := dice(9)
	for range 60 {
		x := roll.street()
		letter := func(change func(*api.SightLetter)) {
			notLess(t, x, with(x, func(x *api.SightStreet) {
				letters := x.Boards[roll.upTo(len(x.Boards)-1)].Letters
				i := roll.upTo(len(letters) - 1)
				change(&letters[i])
				letters[len(letters)-1].Space = 0
			}))
		}
		letter(func(l *api.SightLetter) { l.Height = min(api.SightSize, l.Height+1+roll.upTo(9)) })
		letter(func(l *api.SightLetter) { l.Width = min(api.SightSize, l.Width+1+roll.upTo(9)) })
		letter(func(l *api.SightLetter) { l.Stroke = min(api.SightStroke, l.Stroke+1) })
		letter(func(l *api.SightLetter) { l.Space = min(api.SightSpace, l.Space+1+roll.upTo(5)) })
		for _, change := range []func(*api.SightStreet){
			func(x *api.SightStreet) { x.Eye.Low = x.Eye.High },
			func(x *api.SightStreet) { x.Eye.High = api.SightEye },
			func(x *api.SightStreet) { x.Light.Low = x.Light.High },
			func(x *api.SightStreet) { x.Light.High = api.SightLight },
			func(x *api.SightStreet) { x.Blocks = nil },
		} {
			notLess(t, x, with(x, change))
		}
		for i := range x.Blocks {
			notLess(t, x, with(x, func(x *api.SightStreet) { x.Blocks = slices.Delete(x.Blocks, i, i+1) }))
			notLess(t, x, with(x, func(x *api.SightStreet) { x.Blocks[i].Sure = false }))
		}
	}
}

// turned returns a street that is turned round.
func turned(x api.SightStreet) api.SightStreet {
	return with(x, func(x *api.SightStreet) {
		for i := range x.Boards {
			x.Boards[i].At = x.Length - x.Boards[i].At
		}
		for i, b := range x.Blocks {
			x.Blocks[i].Along = span(x.Length-b.Along.High, x.Length-b.Along.Low)
		}
	})
}

// P2.8: a street that is turned round has the same to read from the places that are turned round.
func TestTurnedRound(t *testing.T) {
	roll := dice(10)
	for range 500 {
		x, number, from := roll.view()
		y, there := turned(x), place(x.Length-from.Along, from.Across)
		w, _ := sight.Seen(x, number, from)
		if got, e := sight.Seen(y, number, there); e != api.OK || got != w {
			t.Fatal(x, number, from, w, got, e)
		}
		f, e := sight.Why(x, number, from)
		if got, e2 := sight.Why(y, number, there); e2 != e || got != f {
			t.Fatal(x, number, from, f, got, e)
		}
		for i, list := range []func(api.SightStreet, int, api.SightPlace) ([]api.SightWord, api.Errno){sight.Letters, sight.Melts} {
			l, _ := list(x, number, from)
			if got, e := list(y, number, there); e != api.OK || !slices.Equal(got, l) {
				t.Fatal(i, x, number, from, l, got, e)
			}
		}
		h, _ := sight.Hidden(x, number, from)
		if got, e := sight.Hidden(y, number, there); e != api.OK || !slices.Equal(got, h) {
			t.Fatal(x, number, from, h, got, e)
		}
		for i, find := range []func(api.SightStreet, int, api.SightPlace) (int, api.Errno){sight.Least, sight.Light} {
			n, e := find(x, number, from)
			if got, e2 := find(y, number, there); e2 != e || got != n {
				t.Fatal(i, x, number, from, n, got, e, e2)
			}
		}
		sameFromAll(t, x, y, number)
	}
}

// sameFromAll checks that as much is read in a street as in one that is turned round.
func sameFromAll(t *testing.T, x, y api.SightStreet, number int) {
	t.Helper()
	n, m, _ := sight.Many(x, number)
	if n2, m2, e := sight.Many(y, number); e != api.OK || n2 != n || m2 != m {
		t.Fatal(x, number, n, m, n2, m2, e)
	}
	p, e := sight.Farthest(x, number)
	if q, e2 := sight.Farthest(y, number); e2 != e || e == api.OK && modelFar(x.Boards[number], p) != modelFar(y.Boards[number], q) {
		t.Fatal(x, number, p, q, e, e2)
	}
	if x.Length*x.Width > 60 {
		return
	}
	_, most, _ := sight.Hang(x, number)
	if _, got, e := sight.Hang(y, number); e != api.OK || got != most {
		t.Fatal(x, number, most, got, e)
	}
}

// all calls everything with some arguments; it is there to see that nothing panics, hangs, or changes them.
func all(x api.SightStreet, number, other int, from api.SightPlace, text string) {
	sight.Check(x)
	sight.Seen(x, number, from)
	sight.Why(x, number, from)
	sight.Letters(x, number, from)
	sight.Melts(x, number, from)
	sight.Hidden(x, number, from)
	sight.Many(x, number)
	sight.Farthest(x, number)
	sight.Both(x, number, other)
	sight.Least(x, number, from)
	sight.Light(x, number, from)
	sight.Hang(x, number)
	sight.Print(x)
	sight.Read(text)
}

// wild returns numbers of which many are far out of range.
func (d *dice) wild() int {
	far := []int{math.MinInt, math.MaxInt, -1, 0, 1, 2, 3, 5, 12, 13, 40, 41, 100, 101, 1 << 40}
	return far[d.upTo(len(far)-1)]
}

// spoil changes some numbers of a street, and a place, into any.
func (d *dice) spoil(x *api.SightStreet, from *api.SightPlace) {
	wild := func() api.Span { return span(d.wild(), d.wild()) }
	for range 1 + d.upTo(2) {
		switch d.upTo(10) {
		case 0:
			x.Length = d.wild()
		case 1:
			x.Width = d.wild()
		case 2:
			x.Eye = wild()
		case 3:
			x.Light = wild()
		case 4:
			x.Boards = append(x.Boards, board(d.wild(), [4]int{d.wild(), d.wild(), d.wild(), d.wild()}))
		case 5:
			x.Boards = append(x.Boards, api.SightBoard{At: d.wild()})
		case 6:
			x.Blocks = append(x.Blocks, api.SightBlock{Along: wild(), Across: wild()})
		case 7:
			x.Boards = nil
		case 8:
			from.Along = d.wild()
		case 9:
			from.Across = d.wild()
		case 10:
			*x = api.SightStreet{}
		}
	}
}

// P0.12: no function panics, whatever its arguments.
func TestAnyArguments(t *testing.T) {
	roll := dice(11)
	all(api.SightStreet{}, 0, 0, place(0, 0), "")
	all(largest(), 2, math.MaxInt, place(math.MinInt, math.MaxInt), "end")
	for range 1000 {
		x, number, from := roll.view()
		text, _ := sight.Print(x)
		at := roll.upTo(len(text) - 1)
		roll.spoil(&x, &from)
		all(x, []int{number, roll.wild()}[roll.upTo(1)], roll.wild(), from, text[:at]+string(rune(roll.upTo(300)))+text[at:])
	}
}

// R3: nil and empty lists are the same.
func TestEmptyLists(t *testing.T) {
	empty := with(short(), func(x *api.SightStreet) { x.Blocks = []api.SightBlock{} })
	n, m, e := sight.Many(empty, 0)
	text, f := sight.Print(empty)
	want, _ := sight.Print(short())
	if n != 3 || m != 3 || e != api.OK || f != api.OK || text != want {
		t.Error(n, m, e, text, f)
	}
}

// R4: no argument is changed.
func TestArgumentsStay(t *testing.T) {
	roll := dice(12)
	for range 100 {
		x, number, from := roll.view()
		before := clone(x)
		all(x, number, 0, from, "")
		if !sameStreet(x, before) {
			t.Fatal(before, x)
		}
	}
}

// R4 and R8: results share no memory with arguments or with each other, and are the same each time.
func TestResultsStay(t *testing.T) {
	for i := range 3 {
		letters, e := sight.Letters(s(), 0, place(4, 6))
		if e != api.OK || !slices.Equal(letters, []api.SightWord{may, may}) {
			t.Fatal(i, letters, e)
		}
		letters[0] = never
		melts, e := sight.Melts(s(), 0, place(4, 6))
		if e != api.OK || !slices.Equal(melts, []api.SightWord{may}) {
			t.Fatal(i, melts, e)
		}
		melts[0] = never
		hidden, e := sight.Hidden(s(), 0, place(4, 6))
		if e != api.OK || !slices.Equal(hidden, []int{1}) {
			t.Fatal(i, hidden, e)
		}
		hidden[0] = 9
		again, e := sight.Read(one)
		if e != api.OK || !sameStreet(again, least()) {
			t.Fatal(i, again, e)
		}
		again.Boards[0].Letters[0].Height, again.Boards[0].At = 9, 9
	}
}
