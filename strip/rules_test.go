package strip_test

import (
	"math"
	"slices"
	"testing"

	"mahlstick/api"
	"mahlstick/strip"
)

// P5.3: with a spot more that does not contradict all orders there is one, and no more than before; there are as many just if it contradicts none.
func TestOrdersWithASpotMore(t *testing.T) {
	roll := dice(9)
	for _, x := range someBoards(10, 1000) {
		before, _ := strip.Count(x)
		spot := l(roll.upTo(x.Names - 1))
		if more := roll.board(x.Names, 0); len(more.Spots) > 0 {
			spot = more.Spots[0]
		}
		more := withSpot(x, spot...)
		word, e := strip.Adds(x, spot)
		if e != api.OK || len(more.Spots) > api.StripSpots {
			continue
		}
		after, f := strip.Count(more)
		first, none := strip.First(more)
		if f != api.OK || after > before || (after == before) != (word == surely) || (after == 0) != (word == never) || (none == api.ErrNone) != (word == never) {
			t.Fatal(x, spot, word, before, after, first, none)
		}
	}
}

// P5.9: without a spot, or without the last name of one, there are as many orders, or more, and owners are as few, or fewer.
func TestFewerSpots(t *testing.T) {
	more, fewer := 0, 0
	for _, x := range someBoards(11, 1000) {
		for i, spot := range x.Spots {
			for _, less := range []api.StripBoard{
				with(x, func(b *api.StripBoard) { b.Spots = slices.Delete(b.Spots, i, i+1) }),
				with(x, func(b *api.StripBoard) { b.Spots[i] = spot[:max(1, len(spot)-1)] }),
			} {
				orders, e := strip.Count(x)
				left, f := strip.Count(less)
				if e != api.OK || f != api.OK || left < orders {
					t.Fatal(x, less, orders, left, e, f)
				}
				if left > orders {
					more++
				}
				owners, e := strip.Owners(x)
				others, f := strip.Owners(less)
				if e == api.OK && (f != api.OK || others > owners) {
					t.Fatal(x, less, owners, others, f)
				}
				if others < owners {
					fewer++
				}
			}
		}
	}
	if more < 100 || fewer < 100 {
		t.Error(more, fewer)
	}
}

// P0.5: names come in an order that no spot contradicts, or spots are named that cannot all be right; then some must be wrong.
func TestNamesOrSpots(t *testing.T) {
	for _, x := range someBoards(12, 1000) {
		first, e := strip.First(x)
		clash, f := strip.Clash(x)
		wrong, _ := strip.Wrong(x)
		if (e == api.OK) != (f == api.ErrNone) || (e == api.OK) != (len(wrong) == 0) {
			t.Fatal(x, first, clash, wrong, e, f)
		}
		if e == api.OK {
			if missing, e := strip.Misses(x, first); e != api.OK || missing != nil {
				t.Fatal(x, first, missing, e)
			}
			continue
		}
		for _, order := range allOrders(x.Names) {
			missing, _ := strip.Misses(x, order)
			if !slices.ContainsFunc(clash, func(spot int) bool { return slices.Contains(missing, spot) }) {
				t.Fatal(x, clash, order, missing)
			}
		}
	}
}

// P5.1 to P5.7: with other numbers for the names, the same is so of them.
func TestRenumberedNames(t *testing.T) {
	roll := dice(13)
	for range 500 {
		x := roll.any()
		var names []int
		for name := range x.Names {
			names = append(names, name)
		}
		names = roll.shuffled(names)
		y := with(x, func(b *api.StripBoard) {
			for _, spot := range b.Spots {
				for i, name := range spot {
					spot[i] = names[name]
				}
			}
		})
		n, _ := strip.Count(x)
		if m, e := strip.Count(y); e != api.OK || m != n {
			t.Fatal(x, y, n, m, e)
		}
		clash, e := strip.Clash(x)
		if same, f := strip.Clash(y); f != e || !slices.Equal(clash, same) {
			t.Fatal(x, y, clash, same, e, f)
		}
		blame, _ := strip.Blame(x)
		if same, e := strip.Blame(y); e != api.OK || !slices.Equal(blame, same) {
			t.Fatal(x, y, blame, same, e)
		}
		_, _, left, e := strip.Next(x)
		if _, _, same, f := strip.Next(y); f != e || same != left {
			t.Fatal(x, y, left, same, e, f)
		}
		for name := range x.Names {
			places, e := strip.Places(x, name)
			if same, f := strip.Places(y, names[name]); f != e || same != places {
				t.Fatal(x, y, name, places, same, e, f)
			}
		}
		owners, e := strip.Owners(x)
		if same, f := strip.Owners(y); f != e || same != owners {
			t.Fatal(x, y, owners, same, e, f)
		}
	}
}

// all calls everything with some arguments; it is there to see that nothing panics, hangs, or changes them.
func all(x api.StripBoard, order, spot []int, one, other int, text string) {
	strip.Check(x)
	strip.Misses(x, order)
	strip.First(x)
	strip.Count(x)
	strip.Before(x, one, other)
	strip.Places(x, one)
	strip.Adds(x, spot)
	strip.Next(x)
	strip.Clash(x)
	strip.Wrong(x)
	strip.Blame(x)
	strip.Same(x, one, other)
	strip.Owners(x)
	strip.Print(x)
	strip.Read(text)
}

// wild returns numbers of which many are far out of range.
func (d *dice) wild() int {
	far := []int{math.MinInt, math.MaxInt, -1, 0, 1, 2, 3, 4, 5, 6, 7, 63, 64, 1 << 40}
	return far[d.upTo(len(far)-1)]
}

// wildList returns a list of such numbers.
func (d *dice) wildList() []int {
	var list []int
	for range d.upTo(7) {
		list = append(list, d.wild())
	}
	return list
}

// spoil changes some numbers of a board into any.
func (d *dice) spoil(b *api.StripBoard) {
	for range 1 + d.upTo(2) {
		switch d.upTo(4) {
		case 0:
			b.Names = d.wild()
		case 1:
			b.Spots = append(b.Spots, d.wildList())
		case 2:
			b.Spots = b.Spots[:d.upTo(len(b.Spots))]
		case 3:
			if len(b.Spots) > 0 {
				b.Spots[d.upTo(len(b.Spots)-1)] = d.wildList()
			}
		case 4:
			*b = api.StripBoard{}
		}
	}
}

// P0.12: no function panics, whatever its arguments.
func TestAnyArguments(t *testing.T) {
	roll := dice(14)
	all(api.StripBoard{}, nil, nil, 0, 0, "")
	all(largest(), l(0, 1, 2, 3, 4, 5), l(0, 1, 2, 3, 4), math.MaxInt, math.MinInt, "end")
	for range 3000 {
		x := roll.any()
		text, _ := strip.Print(x)
		at := roll.upTo(len(text) - 1)
		if roll.upTo(1) == 0 {
			roll.spoil(&x)
		}
		order := roll.wildList()
		if roll.upTo(1) == 0 {
			order = roll.shuffled(l(0, 1, 2, 3, 4, 5))
		}
		all(x, order, roll.wildList(), roll.wild(), roll.wild(), text[:at]+string(rune(roll.upTo(300)))+text[at:])
	}
}

// R3: nil and empty lists are the same.
func TestEmptyLists(t *testing.T) {
	none, empty := board(2), api.StripBoard{Names: 2, Spots: [][]int{}}
	text, e := strip.Print(empty)
	if want, _ := strip.Print(none); e != api.OK || text != want {
		t.Error(text, want, e)
	}
	if n, e := strip.Count(empty); e != api.OK || n != 2 {
		t.Error(n, e)
	}
	if y, e := strip.Wrong(empty); e != api.OK || len(y) > 0 {
		t.Error(y, e)
	}
	if y, e := strip.Blame(empty); e != api.OK || len(y) > 0 {
		t.Error(y, e)
	}
}

// R4: no argument is changed, nor what follows it in its memory.
func TestArgumentsStay(t *testing.T) {
	roll := dice(15)
	for range 300 {
		whole := roll.board(api.StripNames, roll.upTo(4))
		// each spot is followed by other numbers in its memory, and the last one by another spot
		for i, spot := range whole.Spots {
			whole.Spots[i] = append(slices.Clone(spot), 77, 78)
		}
		list := l(0, 1, 2, 3, 4, 5, 77, 78)
		before, after := clone(whole), slices.Clone(list)
		for spots := range len(whole.Spots) + 1 {
			inside := slices.Clone(whole.Spots)
			for i, spot := range inside {
				inside[i] = spot[:len(spot)-2]
			}
			all(api.StripBoard{Names: 6, Spots: inside[:spots]}, list[:6], list[:3], 0, 5, "")
			for i, spot := range inside {
				if !slices.Equal(spot, whole.Spots[i][:len(spot)]) {
					t.Fatal(inside, whole)
				}
			}
		}
		if !sameBoard(whole, before) || !slices.Equal(list, after) {
			t.Fatal(whole, before, list)
		}
	}
}

// R4 and R8: results share no memory with arguments or with each other, and are the same each time.
func TestResultsStay(t *testing.T) {
	x, y, order := a(), b(), l(1, 0, 2, 3)
	for i := range 3 {
		missing, e := strip.Misses(x, order)
		if e != api.OK || !slices.Equal(missing, l(0, 1)) {
			t.Fatal(i, missing, e)
		}
		first, e := strip.First(x)
		if e != api.OK || !slices.Equal(first, l(0, 2, 1, 3)) {
			t.Fatal(i, first, e)
		}
		clash, e := strip.Clash(y)
		if e != api.OK || !slices.Equal(clash, l(1, 3)) {
			t.Fatal(i, clash, e)
		}
		wrong, e := strip.Wrong(y)
		if e != api.OK || !slices.Equal(wrong, l(3)) {
			t.Fatal(i, wrong, e)
		}
		blame, e := strip.Blame(y)
		if e != api.OK || !slices.Equal(blame, []api.StripWord{never, never, never, surely}) {
			t.Fatal(i, blame, e)
		}
		again, e := strip.Read(twoText)
		if e != api.OK || !sameBoard(again, two()) {
			t.Fatal(i, again, e)
		}
		missing[0], first[0], clash[0], wrong[0], blame[0], again.Spots[0][0] = 9, 9, 9, 9, 9, 9
	}
	if !sameBoard(x, a()) || !sameBoard(y, b()) || !slices.Equal(order, l(1, 0, 2, 3)) {
		t.Error(x, y, order)
	}
}
