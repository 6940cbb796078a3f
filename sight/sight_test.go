package sight_test

import (
	"math"
	"slices"
	"testing"

	"mahlstick/api"
	"mahlstick/sight"
)

const (
	never  = api.SightNever
	may    = api.SightMay
	surely = api.SightSurely
)

func span(low, high int) api.Span { return api.Span{Low: low, High: high} }

func place(along, across int) api.SightPlace {
	return api.SightPlace{Along: along, Across: across}
}

func fault(kind api.SightKind, number int) api.SightFault {
	return api.SightFault{Kind: kind, Number: number}
}

// board returns a board at some place with letters that have a height, a width, a stroke and a space each.
func board(at int, letters ...[4]int) api.SightBoard {
	b := api.SightBoard{At: at}
	for _, l := range letters {
		b.Letters = append(b.Letters, api.SightLetter{Height: l[0], Width: l[1], Stroke: l[2], Space: l[3]})
	}
	return b
}

// block returns a block that is sure.
func block(alongLow, alongHigh, acrossLow, acrossHigh int) api.SightBlock {
	return api.SightBlock{Along: span(alongLow, alongHigh), Across: span(acrossLow, acrossHigh), Sure: true}
}

// s returns the street s of the chapter.
func s() api.SightStreet {
	wagon := block(5, 6, 4, 5)
	wagon.Sure = false
	return api.SightStreet{
		Length: 20, Width: 6, Eye: span(4, 6), Light: span(50, 100),
		Boards: []api.SightBoard{board(10, [4]int{6, 4, 1, 1}, [4]int{8, 5, 2, 0}), board(0, [4]int{10, 10, 2, 0})},
		Blocks: []api.SightBlock{block(12, 13, 2, 3), wagon},
	}
}

// short returns the street t of the chapter.
func short() api.SightStreet {
	return api.SightStreet{Length: 4, Width: 2, Eye: span(1, 1), Light: span(100, 100), Boards: []api.SightBoard{board(0, [4]int{3, 2, 1, 0})}}
}

// least returns the street of the chapter that has a text.
func least() api.SightStreet {
	return api.SightStreet{Length: 1, Width: 1, Eye: span(1, 1), Light: span(1, 1), Boards: []api.SightBoard{board(0, [4]int{1, 1, 1, 0})}}
}

// largest returns a street that has as much of everything as can be.
func largest() api.SightStreet {
	x := api.SightStreet{Length: 40, Width: 12, Eye: span(40, 40), Light: span(100, 100)}
	letter := [4]int{30, 30, 10, 20}
	for range 3 {
		x.Boards = append(x.Boards, board(40, letter, letter, letter, letter, [4]int{30, 30, 10, 0}))
	}
	for range 4 {
		x.Blocks = append(x.Blocks, api.SightBlock{Along: span(40, 40), Across: span(12, 12)})
	}
	return x
}

// with returns a street with a change.
func with(x api.SightStreet, change func(*api.SightStreet)) api.SightStreet {
	x = clone(x)
	change(&x)
	return x
}

// badStreets returns streets that are not as defined, each by one change.
func badStreets() []api.SightStreet {
	bad := []api.SightStreet{{}}
	for _, change := range []func(*api.SightStreet){
		func(x *api.SightStreet) { x.Length = 41 },
		func(x *api.SightStreet) { x.Length, x.Boards[0].At, x.Blocks = 0, 0, nil },
		func(x *api.SightStreet) { x.Length = -1 },
		func(x *api.SightStreet) { x.Width = 13 },
		func(x *api.SightStreet) { x.Width, x.Blocks = 0, nil },
		func(x *api.SightStreet) { x.Width, x.Blocks = math.MinInt, nil },
		func(x *api.SightStreet) { x.Eye = span(0, 6) },
		func(x *api.SightStreet) { x.Eye = span(4, 41) },
		func(x *api.SightStreet) { x.Eye = span(5, 4) },
		func(x *api.SightStreet) { x.Light = span(0, 100) },
		func(x *api.SightStreet) { x.Light = span(50, 101) },
		func(x *api.SightStreet) { x.Light = span(51, 50) },
		func(x *api.SightStreet) { x.Boards = nil },
		func(x *api.SightStreet) { x.Boards = slices.Repeat(x.Boards[:1], 4) },
		func(x *api.SightStreet) { x.Boards[0].At = -1 },
		func(x *api.SightStreet) { x.Boards[1].At = 21 },
		func(x *api.SightStreet) { x.Boards[1].Letters = nil },
		func(x *api.SightStreet) { x.Boards[1].Letters = slices.Repeat(x.Boards[1].Letters, 6) },
		func(x *api.SightStreet) { x.Boards[0].Letters[1].Space = 1 },
		func(x *api.SightStreet) { x.Boards[0].Letters[0].Space = -1 },
		func(x *api.SightStreet) { x.Boards[0].Letters[0].Space = 21 },
		func(x *api.SightStreet) { x.Boards[0].Letters[0].Height = 0 },
		func(x *api.SightStreet) { x.Boards[0].Letters[1].Height = 31 },
		func(x *api.SightStreet) { x.Boards[0].Letters[0].Width = 0 },
		func(x *api.SightStreet) { x.Boards[1].Letters[0].Width = 31 },
		func(x *api.SightStreet) { x.Boards[0].Letters[0].Stroke = 0 },
		func(x *api.SightStreet) { x.Boards[0].Letters[0].Stroke = 11 },
		func(x *api.SightStreet) { x.Blocks = slices.Repeat(x.Blocks[:1], 5) },
		func(x *api.SightStreet) { x.Blocks[0].Along = span(-1, 13) },
		func(x *api.SightStreet) { x.Blocks[1].Along = span(12, 21) },
		func(x *api.SightStreet) { x.Blocks[0].Along = span(13, 12) },
		func(x *api.SightStreet) { x.Blocks[0].Across = span(0, 3) },
		func(x *api.SightStreet) { x.Blocks[1].Across = span(4, 7) },
		func(x *api.SightStreet) { x.Blocks[1].Across = span(5, 4) },
	} {
		bad = append(bad, with(s(), change))
	}
	return bad
}

// P2.1: streets at all limits are as defined.
func TestCheckLimits(t *testing.T) {
	for i, x := range []api.SightStreet{
		s(), short(), least(), largest(),
		with(s(), func(x *api.SightStreet) { x.Blocks = nil }),
		with(s(), func(x *api.SightStreet) { x.Blocks = []api.SightBlock{} }),
		with(s(), func(x *api.SightStreet) { x.Boards[0].At, x.Boards[1].At = 0, 20 }),
		with(s(), func(x *api.SightStreet) { x.Boards[0].At, x.Boards[1].At = 5, 5 }),
		with(s(), func(x *api.SightStreet) { x.Boards[0].Letters[0].Space = 0 }),
		with(s(), func(x *api.SightStreet) { x.Eye, x.Light = span(1, 40), span(1, 100) }),
		with(s(), func(x *api.SightStreet) { x.Blocks[0] = block(0, 20, 1, 6); x.Blocks[1] = x.Blocks[0] }),
	} {
		if e := sight.Check(x); e != api.OK {
			t.Error(i, e)
		}
	}
}

// refused checks that the functions with a place return ErrArg, and nothing else.
func refused(t *testing.T, i int, x api.SightStreet, number int, from api.SightPlace) {
	t.Helper()
	if w, e := sight.Seen(x, number, from); e != api.ErrArg || w != 0 {
		t.Error(i, w, e)
	}
	if f, e := sight.Why(x, number, from); e != api.ErrArg || f != fault(0, 0) {
		t.Error(i, f, e)
	}
	if l, e := sight.Letters(x, number, from); e != api.ErrArg || len(l) > 0 {
		t.Error(i, l, e)
	}
	if l, e := sight.Melts(x, number, from); e != api.ErrArg || len(l) > 0 {
		t.Error(i, l, e)
	}
	if l, e := sight.Hidden(x, number, from); e != api.ErrArg || len(l) > 0 {
		t.Error(i, l, e)
	}
	if n, e := sight.Least(x, number, from); e != api.ErrArg || n != 0 {
		t.Error(i, n, e)
	}
	if n, e := sight.Light(x, number, from); e != api.ErrArg || n != 0 {
		t.Error(i, n, e)
	}
}

// refusedAll checks that the functions without a place return ErrArg, and nothing else.
func refusedAll(t *testing.T, i int, x api.SightStreet, number, other int) {
	t.Helper()
	if n, m, e := sight.Many(x, number); e != api.ErrArg || n != 0 || m != 0 {
		t.Error(i, n, m, e)
	}
	if p, e := sight.Farthest(x, number); e != api.ErrArg || p != place(0, 0) {
		t.Error(i, p, e)
	}
	if n, m, e := sight.Hang(x, number); e != api.ErrArg || n != 0 || m != 0 {
		t.Error(i, n, m, e)
	}
	for _, two := range [][2]int{{number, other}, {other, number}} {
		if p, n, e := sight.Both(x, two[0], two[1]); e != api.ErrArg || p != place(0, 0) || n != 0 {
			t.Error(i, p, n, e)
		}
	}
}

// P2.1 to P2.7: all functions return ErrArg for a street that is not as defined.
func TestBadStreets(t *testing.T) {
	for i, x := range badStreets() {
		if e := sight.Check(x); e != api.ErrArg {
			t.Error(i, e)
		}
		refused(t, i, x, 0, place(1, 1))
		refusedAll(t, i, x, 0, 1)
		if text, e := sight.Print(x); e != api.ErrArg || text != "" {
			t.Error(i, text, e)
		}
	}
}

// P2.1 to P2.6: boards that do not exist, places that are not in the street, and twice the same board.
func TestBadArguments(t *testing.T) {
	for i, number := range []int{-1, 2, 3, math.MinInt, math.MaxInt} {
		refused(t, i, s(), number, place(1, 1))
		refusedAll(t, i, s(), number, 0)
	}
	for i, from := range []api.SightPlace{place(-1, 1), place(21, 1), place(1, 0), place(1, -1), place(1, 7), place(math.MinInt, 1), place(1, math.MaxInt)} {
		refused(t, i, s(), 0, from)
	}
	for number := range 2 {
		if p, n, e := sight.Both(s(), number, number); e != api.ErrArg || p != place(0, 0) || n != 0 {
			t.Error(number, p, n, e)
		}
	}
}

// P2.1: the examples of the chapter, and corners of the street.
func TestSeen(t *testing.T) {
	for i, x := range []struct {
		s      api.SightStreet
		number int
		from   api.SightPlace
		want   api.SightWord
	}{
		{s(), 0, place(10, 6), surely}, {s(), 0, place(4, 6), may}, {s(), 0, place(16, 6), never},
		{s(), 1, place(7, 3), surely}, {s(), 1, place(9, 6), may}, {s(), 1, place(20, 1), never},
		{short(), 0, place(0, 1), surely}, {short(), 0, place(1, 1), surely}, {short(), 0, place(0, 2), surely}, {short(), 0, place(1, 2), never}, {short(), 0, place(4, 2), never},
		{least(), 0, place(0, 1), never}, {largest(), 0, place(0, 1), never}, {largest(), 0, place(0, 2), surely}, {largest(), 2, place(40, 12), may},
	} {
		if w, e := sight.Seen(x.s, x.number, x.from); e != api.OK || w != x.want {
			t.Error(i, w, e)
		}
	}
}

// P2.1: each bound is met by just as much as it asks for, and by nothing less.
func TestBounds(t *testing.T) {
	// from 3 4 the distance of a board at 0, squared, is 25
	look := func(power, height, width, stroke, space int) api.SightStreet {
		return api.SightStreet{Length: 3, Width: 4, Eye: span(power/5, power/5), Light: span(5, 5), Boards: []api.SightBoard{board(0, [4]int{height, width, stroke, space}, [4]int{30, 30, 10, 0})}}
	}
	for i, x := range []struct {
		s    api.SightStreet
		want api.SightFault
	}{
		{look(50, 10, 30, 10, 20), fault(0, 0)}, {look(50, 9, 30, 10, 20), fault(api.SightLow, 0)},
		{look(125, 30, 5, 10, 20), fault(0, 0)}, {look(125, 30, 4, 10, 20), fault(api.SightNarrow, 0)},
		{look(50, 30, 30, 2, 20), fault(0, 0)}, {look(50, 30, 30, 1, 20), fault(api.SightThin, 0)},
		{look(125, 30, 30, 10, 1), fault(0, 0)}, {look(125, 30, 30, 10, 0), fault(api.SightMelted, 0)},
		{look(125, 4, 5, 1, 1), fault(0, 0)}, {look(125, 3, 4, 1, 0), fault(api.SightLow, 0)}, {look(125, 4, 4, 1, 0), fault(api.SightNarrow, 0)},
	} {
		seen, want := surely, api.ErrNone
		if x.want.Kind != 0 {
			seen, want = never, api.OK
		}
		if w, e := sight.Seen(x.s, 0, place(3, 4)); e != api.OK || w != seen {
			t.Error(i, w, e)
		}
		if f, e := sight.Why(x.s, 0, place(3, 4)); e != want || f != x.want {
			t.Error(i, f, e)
		}
	}
}

// P2.1 and P2.3: blocks that the line to a board meets at a corner, along a side, at its end, or just not.
func TestBlocks(t *testing.T) {
	for i, x := range []struct {
		at    int
		from  api.SightPlace
		block api.SightBlock
		hides bool
	}{
		{0, place(4, 4), block(2, 3, 1, 2), true}, {0, place(4, 4), block(3, 3, 1, 2), false}, {0, place(4, 4), block(1, 2, 2, 3), true}, {0, place(4, 4), block(1, 1, 2, 3), false},
		{0, place(4, 4), block(2, 2, 2, 2), true}, {0, place(4, 4), block(0, 4, 1, 4), true}, {0, place(4, 4), block(0, 4, 2, 2), true}, {0, place(4, 4), block(3, 3, 1, 4), true},
		{0, place(4, 4), block(4, 4, 4, 4), true}, {0, place(3, 3), block(4, 4, 4, 4), false}, {0, place(2, 2), block(2, 2, 3, 4), false}, {0, place(2, 2), block(0, 4, 3, 4), false},
		{0, place(2, 2), block(2, 4, 1, 2), true}, {0, place(2, 2), block(3, 4, 1, 4), false}, {2, place(2, 4), block(2, 2, 1, 1), true}, {2, place(2, 4), block(1, 1, 1, 4), false},
		{2, place(2, 4), block(3, 3, 1, 4), false}, {2, place(2, 4), block(1, 2, 3, 3), true}, {2, place(2, 4), block(2, 3, 3, 3), true}, {2, place(2, 3), block(2, 3, 4, 4), false},
		{0, place(4, 1), block(4, 4, 1, 1), true}, {0, place(4, 1), block(0, 3, 1, 1), false}, {0, place(4, 1), block(0, 3, 1, 4), false}, {0, place(4, 1), block(0, 4, 1, 4), true}, {0, place(4, 1), block(0, 4, 2, 4), false},
		{4, place(0, 2), block(2, 2, 1, 1), true}, {4, place(0, 2), block(3, 3, 1, 1), false}, {4, place(0, 2), block(1, 1, 1, 1), false}, {4, place(0, 2), block(0, 1, 1, 1), false}, {4, place(0, 2), block(0, 1, 1, 2), true}, {4, place(0, 2), block(1, 1, 1, 2), true},
		// at 2 across the line is at 4 thirds along: no corner, and no whole number
		{0, place(2, 3), block(1, 1, 2, 2), false}, {0, place(2, 3), block(2, 2, 2, 2), false}, {0, place(2, 3), block(1, 2, 2, 2), true}, {0, place(2, 3), block(1, 1, 1, 2), true},
	} {
		street := api.SightStreet{Length: 4, Width: 4, Eye: span(40, 40), Light: span(100, 100), Boards: []api.SightBoard{board(x.at, [4]int{30, 30, 10, 0})}, Blocks: []api.SightBlock{x.block}}
		word, list := surely, []int{}
		if x.hides {
			word, list = never, []int{0}
		}
		if w, e := sight.Seen(street, 0, x.from); e != api.OK || w != word {
			t.Error(i, w, e)
		}
		if got, e := sight.Hidden(street, 0, x.from); e != api.OK || !slices.Equal(got, list) {
			t.Error(i, got, e)
		}
		if modelHides(x.block, x.at, x.from) != x.hides {
			t.Error(i, "model")
		}
		if !x.hides {
			continue
		}
		// a block that is there only at times leaves it open
		street.Blocks[0].Sure = false
		if w, e := sight.Seen(street, 0, x.from); e != api.OK || w != may {
			t.Error(i, w, e)
		}
		if f, e := sight.Why(street, 0, x.from); e != api.OK || f != fault(api.SightHidden, 0) {
			t.Error(i, f, e)
		}
	}
}

// P2.1: with each eye and each light a board that is surely read is read, and one that never is is not.
func TestSeenWithAnyEyeAndLight(t *testing.T) {
	roll := dice(1)
	found := map[api.SightWord]int{}
	for range 3000 {
		x, number, from := roll.view()
		b := x.Boards[number]
		w, e := sight.Seen(x, number, from)
		if e != api.OK || w != modelSeen(x, b, from) {
			t.Fatal(x, number, from, w, e)
		}
		found[w]++
		eye, light := x.Eye.Low+roll.upTo(x.Eye.High-x.Eye.Low), x.Light.Low+roll.upTo(x.Light.High-x.Light.Low)
		if w == surely && !modelRead(b, from, eye, light, x.Blocks) || w == never && modelRead(b, from, eye, light, modelSure(x)) {
			t.Fatal(x, number, from, w, eye, light)
		}
	}
	if found[surely] < 300 || found[may] < 300 || found[never] < 300 {
		t.Error(found)
	}
}

// P2.2: the examples of the chapter, and the order of faults.
func TestWhy(t *testing.T) {
	// with the power 25 its letters of the size 1 are not read from anywhere; of its faults one after the other is mended
	all := api.SightStreet{Length: 4, Width: 4, Eye: span(1, 40), Light: span(25, 100), Boards: []api.SightBoard{board(4, [4]int{30, 30, 10, 0}, [4]int{1, 30, 10, 20}, [4]int{1, 1, 1, 0}, [4]int{30, 30, 10, 0})}, Blocks: []api.SightBlock{block(0, 0, 1, 2), block(0, 4, 2, 2), block(1, 1, 1, 4)}}
	open := with(all, func(x *api.SightStreet) { x.Blocks = nil })
	tall := with(open, func(x *api.SightStreet) { x.Boards[0].Letters[1].Height, x.Boards[0].Letters[2].Height = 30, 30 })
	broad := with(tall, func(x *api.SightStreet) { x.Boards[0].Letters[2].Width = 30 })
	thick := with(broad, func(x *api.SightStreet) { x.Boards[0].Letters[2].Stroke = 10 })
	apart := with(thick, func(x *api.SightStreet) { x.Boards[0].Letters[0].Space = 20 })
	clear := with(apart, func(x *api.SightStreet) { x.Boards[0].Letters[2].Space = 20 })
	for i, x := range []struct {
		s    api.SightStreet
		from api.SightPlace
		want api.SightFault
		e    api.Errno
	}{
		{s(), place(4, 6), fault(api.SightHidden, 1), api.OK}, {s(), place(4, 1), fault(api.SightNarrow, 0), api.OK}, {s(), place(10, 6), fault(0, 0), api.ErrNone}, {s(), place(16, 6), fault(api.SightHidden, 0), api.OK},
		{all, place(3, 3), fault(api.SightHidden, 1), api.OK}, {all, place(0, 4), fault(api.SightHidden, 1), api.OK}, {all, place(0, 1), fault(api.SightHidden, 0), api.OK},
		{open, place(3, 3), fault(api.SightLow, 1), api.OK}, {tall, place(3, 3), fault(api.SightNarrow, 2), api.OK}, {broad, place(3, 3), fault(api.SightThin, 2), api.OK},
		{thick, place(3, 3), fault(api.SightMelted, 0), api.OK}, {apart, place(3, 3), fault(api.SightMelted, 2), api.OK}, {clear, place(3, 3), fault(0, 0), api.ErrNone},
	} {
		if f, e := sight.Why(x.s, 0, x.from); e != x.e || f != x.want {
			t.Error(i, f, e)
		}
	}
}

// P2.2: there is a fault just if a board is not surely read, and it is the first one.
func TestWhyIsFirst(t *testing.T) {
	roll := dice(2)
	found := map[api.SightKind]int{}
	for range 3000 {
		x, number, from := roll.view()
		all := append(modelFaults(x, x.Boards[number], from), fault(0, 0))
		f, e := sight.Why(x, number, from)
		w, _ := sight.Seen(x, number, from)
		if f != all[0] || (w == surely) != (e == api.ErrNone) || e != api.ErrNone && e != api.OK || (e == api.OK) != (len(all) > 1) {
			t.Fatal(x, number, from, f, e, w, all)
		}
		found[f.Kind]++
	}
	for kind := range api.SightMelted + 1 {
		if found[kind] < 50 {
			t.Error(found)
		}
	}
}

// P2.3: the examples of the chapter.
func TestLettersMeltsHidden(t *testing.T) {
	lone := with(s(), func(x *api.SightStreet) { x.Boards[0].Letters = x.Boards[0].Letters[1:] })
	crowd := with(s(), func(x *api.SightStreet) { x.Blocks = append(x.Blocks, block(10, 10, 1, 6), block(0, 20, 6, 6)) })
	for i, x := range []struct {
		s              api.SightStreet
		from           api.SightPlace
		letters, melts []api.SightWord
		hidden         []int
	}{
		{s(), place(10, 6), []api.SightWord{surely, surely}, []api.SightWord{never}, nil},
		{s(), place(4, 6), []api.SightWord{may, may}, []api.SightWord{may}, []int{1}},
		{s(), place(16, 6), []api.SightWord{may, may}, []api.SightWord{may}, []int{0}},
		{s(), place(20, 1), []api.SightWord{never, never}, []api.SightWord{surely}, nil},
		{s(), place(13, 1), []api.SightWord{may, surely}, []api.SightWord{never}, nil},
		{lone, place(10, 6), []api.SightWord{surely}, nil, nil},
		{crowd, place(10, 6), []api.SightWord{surely, surely}, []api.SightWord{never}, []int{2, 3}},
		{crowd, place(16, 6), []api.SightWord{may, may}, []api.SightWord{may}, []int{0, 3}},
	} {
		if l, e := sight.Letters(x.s, 0, x.from); e != api.OK || !slices.Equal(l, x.letters) {
			t.Error(i, l, e)
		}
		if l, e := sight.Melts(x.s, 0, x.from); e != api.OK || !slices.Equal(l, x.melts) {
			t.Error(i, l, e)
		}
		if l, e := sight.Hidden(x.s, 0, x.from); e != api.OK || !slices.Equal(l, x.hidden) {
			t.Error(i, l, e)
		}
	}
}

// only reports whether a list has nothing but one word.
func only(list []api.SightWord, word api.SightWord) bool {
	return !slices.ContainsFunc(list, func(w api.SightWord) bool { return w != word })
}

// P2.3: a board is surely read just if all of its letters are, no two may melt, and nothing hides it.
func TestSurelyIfAllIs(t *testing.T) {
	roll := dice(3)
	for range 2000 {
		x, number, from := roll.view()
		b := x.Boards[number]
		letters, e := sight.Letters(x, number, from)
		melts, f := sight.Melts(x, number, from)
		hidden, g := sight.Hidden(x, number, from)
		if e != api.OK || f != api.OK || g != api.OK || len(letters) != len(b.Letters) || len(melts) != len(b.Letters)-1 {
			t.Fatal(x, number, from, letters, melts, hidden, e, f, g)
		}
		for i := range letters {
			if letters[i] != modelWord(x, func(eye, light int) bool { return modelLetter(b, i, from, eye, light) }) {
				t.Fatal(x, number, from, i, letters)
			}
		}
		for i := range melts {
			if melts[i] != modelWord(x, func(eye, light int) bool { return modelMelt(b, i, from, eye, light) }) {
				t.Fatal(x, number, from, i, melts)
			}
		}
		for i := range x.Blocks {
			if slices.Contains(hidden, i) != modelHides(x.Blocks[i], b.At, from) {
				t.Fatal(x, number, from, i, hidden)
			}
		}
		w, _ := sight.Seen(x, number, from)
		if !slices.IsSorted(hidden) || (w == surely) != (only(letters, surely) && only(melts, never) && len(hidden) == 0) {
			t.Fatal(x, number, from, w, letters, melts, hidden)
		}
	}
}

// P2.4: the examples of the chapter, equally far places, and boards that are read from nowhere.
func TestAllPlaces(t *testing.T) {
	three := with(short(), func(x *api.SightStreet) { x.Boards[0].At = 2 })
	for i, x := range []struct {
		s            api.SightStreet
		surely, some int
		farthest     api.SightPlace
		e            api.Errno
	}{
		{s(), 35, 75, place(7, 6), api.OK}, {short(), 3, 3, place(0, 2), api.OK}, {least(), 0, 0, place(0, 0), api.ErrNone},
		{three, 4, 4, place(2, 2), api.OK},
		// 0 1 and 2 1 are as far as each other: the first one is meant
		{with(three, func(x *api.SightStreet) { x.Width, x.Boards[0].At = 1, 1 }), 3, 3, place(0, 1), api.OK},
		{with(short(), func(x *api.SightStreet) { x.Light = span(99, 99) }), 1, 1, place(0, 1), api.OK},
		{with(short(), func(x *api.SightStreet) { x.Eye.High = 2 }), 3, 5, place(0, 2), api.OK},
		// from 0 1 to 5 1 its letters are not broad enough, and 40 12 is in a block
		{largest(), 41*12 - 7, 41*12 - 6, place(0, 12), api.OK},
		{with(short(), func(x *api.SightStreet) { x.Blocks = []api.SightBlock{block(0, 4, 1, 1)} }), 0, 0, place(0, 0), api.ErrNone},
		{with(short(), func(x *api.SightStreet) { x.Blocks = []api.SightBlock{{Along: span(0, 4), Across: span(1, 1)}} }), 0, 3, place(0, 0), api.ErrNone},
	} {
		if n, m, e := sight.Many(x.s, 0); e != api.OK || n != x.surely || m != x.some {
			t.Error(i, n, m, e)
		}
		if p, e := sight.Farthest(x.s, 0); e != x.e || p != x.farthest {
			t.Error(i, p, e)
		}
	}
	for i, x := range []struct {
		s          api.SightStreet
		one, other int
		want       api.SightPlace
		n          int
		e          api.Errno
	}{
		{s(), 0, 1, place(7, 3), 4, api.OK}, {s(), 1, 0, place(7, 3), 4, api.OK},
		{largest(), 0, 2, place(0, 2), 41*12 - 7, api.OK}, {largest(), 2, 1, place(0, 2), 41*12 - 7, api.OK},
		{with(s(), func(x *api.SightStreet) { x.Boards[1].At = 20 }), 0, 1, place(11, 6), 6, api.OK},
		{with(s(), func(x *api.SightStreet) { x.Blocks = append(x.Blocks, block(0, 20, 1, 6)) }), 0, 1, place(0, 0), 0, api.ErrNone},
		{with(s(), func(x *api.SightStreet) { x.Boards[1].Letters[0].Width = 1 }), 0, 1, place(0, 0), 0, api.ErrNone},
	} {
		if p, n, e := sight.Both(x.s, x.one, x.other); e != x.e || p != x.want || n != x.n {
			t.Error(i, p, n, e)
		}
	}
}

// P2.4: no place is farther, and all are counted.
func TestFarthestIsFarthest(t *testing.T) {
	roll := dice(4)
	for range 300 {
		x, number, _ := roll.view()
		b := x.Boards[number]
		n, m, farthest, found := 0, 0, place(0, 0), api.ErrNone
		for _, from := range modelPlaces(x) {
			w := modelSeen(x, b, from)
			if w == surely {
				n++
			}
			if w != never {
				m++
			}
			if w == surely && (found == api.ErrNone || modelFar(b, from) > modelFar(b, farthest)) {
				farthest, found = from, api.OK
			}
		}
		if got, more, e := sight.Many(x, number); e != api.OK || got != n || more != m {
			t.Fatal(x, number, got, more, e, n, m)
		}
		if p, e := sight.Farthest(x, number); e != found || p != farthest {
			t.Fatal(x, number, p, e, farthest)
		}
	}
}

// P2.4: the first place from which two boards are read, and how many there are.
func TestBothIsFirst(t *testing.T) {
	roll := dice(5)
	found := 0
	for range 400 {
		x := roll.street()
		if len(x.Boards) < 2 {
			continue
		}
		one, other := len(x.Boards)-1, roll.upTo(len(x.Boards)-2)
		first, n := place(0, 0), 0
		for _, from := range modelPlaces(x) {
			if modelSurely(x, x.Boards[one], from) && modelSurely(x, x.Boards[other], from) {
				if n == 0 {
					first = from
				}
				n++
			}
		}
		want := api.OK
		if n == 0 {
			want = api.ErrNone
		} else {
			found++
		}
		if p, m, e := sight.Both(x, one, other); e != want || p != first || m != n {
			t.Fatal(x, one, other, p, m, e, first, n)
		}
	}
	if found < 50 {
		t.Error(found)
	}
}

// P2.5: the examples of the chapter, and numbers at their limits.
func TestLeastAndLight(t *testing.T) {
	size := func(n int) api.SightStreet {
		return api.SightStreet{Length: 1, Width: 9, Eye: span(1, 40), Light: span(1, 100), Boards: []api.SightBoard{board(0, [4]int{n, n, 10, 0})}}
	}
	for i, x := range []struct {
		s     api.SightStreet
		from  api.SightPlace
		least int
		e     api.Errno
		light int
		f     api.Errno
	}{
		{s(), place(10, 6), 1, api.OK, 38, api.OK}, {s(), place(4, 1), 5, api.OK, 0, api.ErrNone}, {s(), place(4, 6), 0, api.ErrNone, 0, api.ErrNone}, {s(), place(16, 6), 0, api.ErrNone, 0, api.ErrNone},
		// 9 times 12 are enough for a foot, and 9 times 11 are not; with a size of 9 the light 100 is enough for 9 feet
		{size(12), place(0, 1), 9, api.OK, 9, api.OK}, {size(11), place(0, 1), 0, api.ErrNone, 10, api.OK}, {size(9), place(0, 9), 0, api.ErrNone, 100, api.OK}, {size(8), place(0, 9), 0, api.ErrNone, 0, api.ErrNone},
		// the light may be less, or greater, than any of the street
		{with(size(30), func(x *api.SightStreet) { x.Eye, x.Light = span(40, 40), span(50, 60) }), place(0, 1), 1, api.OK, 1, api.OK},
		{with(size(30), func(x *api.SightStreet) { x.Light = span(2, 3) }), place(0, 1), 2, api.OK, 4, api.OK},
		// two letters without a space melt, however large they are
		{with(s(), func(x *api.SightStreet) { x.Boards[0].Letters[0].Space = 0 }), place(10, 6), 0, api.ErrNone, 0, api.ErrNone},
		{with(s(), func(x *api.SightStreet) { x.Boards[0].Letters[0].Stroke = 10 }), place(4, 1), 5, api.OK, 0, api.ErrNone},
	} {
		if n, e := sight.Least(x.s, 0, x.from); e != x.e || n != x.least {
			t.Error(i, n, e)
		}
		if n, e := sight.Light(x.s, 0, x.from); e != x.f || n != x.light {
			t.Error(i, n, e)
		}
	}
}

// P2.5: with no lesser number, and no less light, a board is surely read.
func TestLeastIsLeast(t *testing.T) {
	roll := dice(6)
	found := map[int]int{}
	for range 2000 {
		x, number, from := roll.view()
		b := x.Boards[number]
		least, light := 0, 0
		for times := api.SightTimes; times > 0; times-- {
			if modelSurely(x, modelTimes(b, times), from) {
				least = times
			}
		}
		for l := api.SightLight; l > 0; l-- {
			if modelRead(b, from, x.Eye.Low, l, x.Blocks) {
				light = l
			}
		}
		if n, e := sight.Least(x, number, from); n != least || (e == api.OK) != (least > 0) || e != api.OK && e != api.ErrNone {
			t.Fatal(x, number, from, n, e, least)
		}
		if n, e := sight.Light(x, number, from); n != light || (e == api.OK) != (light > 0) || e != api.OK && e != api.ErrNone {
			t.Fatal(x, number, from, n, e, light)
		}
		found[least]++
	}
	for times := range 6 {
		if found[times] < 10 {
			t.Error(found)
		}
	}
}

// P2.6: the example of the chapter, and boards for which all is the same.
func TestHang(t *testing.T) {
	for i, x := range []struct {
		s             api.SightStreet
		number, at, n int
	}{
		{short(), 0, 1, 4}, {with(short(), func(x *api.SightStreet) { x.Boards[0].At = 4 }), 0, 1, 4}, {least(), 0, 0, 0},
		{with(short(), func(x *api.SightStreet) { x.Blocks = []api.SightBlock{block(0, 1, 1, 1)} }), 0, 3, 4},
		{with(short(), func(x *api.SightStreet) { x.Blocks = []api.SightBlock{{Along: span(0, 3), Across: span(1, 2)}} }), 0, 4, 2},
		{with(short(), func(x *api.SightStreet) { x.Boards = append(x.Boards, board(4, [4]int{1, 1, 1, 0})) }), 1, 0, 1},
		{largest(), 1, 6, 41*12 - 1},
	} {
		if at, n, e := sight.Hang(x.s, x.number); e != api.OK || at != x.at || n != x.n {
			t.Error(i, at, n, e)
		}
	}
}

// P2.6: nowhere else is a board read from more places.
func TestHangIsBest(t *testing.T) {
	roll := dice(7)
	for range 60 {
		x, number, _ := roll.view()
		best, most := 0, -1
		for at := range x.Length + 1 {
			b := x.Boards[number]
			b.At = at
			if n := modelCount(x, b); n > most {
				best, most = at, n
			}
		}
		at, n, e := sight.Hang(x, number)
		if e != api.OK || at != best || n != most {
			t.Fatal(x, number, at, n, e, best, most)
		}
	}
}
