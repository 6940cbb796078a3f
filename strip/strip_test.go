package strip_test

import (
	"math"
	"slices"
	"testing"

	"mahlstick/api"
	"mahlstick/strip"
)

const (
	never  = api.StripNever
	may    = api.StripMay
	surely = api.StripSurely
)

func l(names ...int) []int { return names }

func span(low, high int) api.Span { return api.Span{Low: low, High: high} }

// board returns a board with so many names and some spots.
func board(names int, spots ...[]int) api.StripBoard {
	return api.StripBoard{Names: names, Spots: spots}
}

// a, b and c return the boards of the chapter, and two the one that has a text.
func a() api.StripBoard   { return board(4, l(0, 1), l(2, 1), l(2, 3)) }
func b() api.StripBoard   { return withSpot(a(), 1, 3, 2) }
func c() api.StripBoard   { return board(3, l(0, 1), l(2, 0)) }
func two() api.StripBoard { return board(2, l(0, 1)) }

// largest returns a board that has as much of everything as can be.
func largest() api.StripBoard {
	return board(6, slices.Repeat([][]int{l(5, 4, 3, 2, 1)}, 6)...)
}

// ring returns a board with so many names and spots that contradict each other, but not without one of them.
func ring(names int) api.StripBoard {
	x := board(names)
	for name := range names {
		x.Spots = append(x.Spots, l(name, (name+1)%names))
	}
	return x
}

// badBoards returns boards that are not as defined, each by one change.
func badBoards() []api.StripBoard {
	bad := []api.StripBoard{{}}
	for _, change := range []func(*api.StripBoard){
		func(b *api.StripBoard) { b.Names = 0 },
		func(b *api.StripBoard) { b.Names = 3 },
		func(b *api.StripBoard) { b.Names = 7 },
		func(b *api.StripBoard) { b.Names = -1 },
		func(b *api.StripBoard) { b.Names = math.MinInt },
		func(b *api.StripBoard) { b.Names = math.MaxInt },
		func(b *api.StripBoard) { b.Names, b.Spots = 0, nil },
		func(b *api.StripBoard) { b.Names, b.Spots = 7, nil },
		func(b *api.StripBoard) { b.Names, b.Spots = math.MaxInt, nil },
		func(b *api.StripBoard) { b.Spots = slices.Repeat(b.Spots, 3)[:7] },
		func(b *api.StripBoard) { b.Spots = slices.Repeat(b.Spots, 100) },
		func(b *api.StripBoard) { b.Spots[0] = nil },
		func(b *api.StripBoard) { b.Spots[2] = []int{} },
		func(b *api.StripBoard) { b.Spots[0][0] = -1 },
		func(b *api.StripBoard) { b.Spots[2][1] = 4 },
		func(b *api.StripBoard) { b.Spots[1][0] = math.MaxInt },
		func(b *api.StripBoard) { b.Spots[1][1] = math.MinInt },
		func(b *api.StripBoard) { b.Spots[0] = l(0, 0) },
		func(b *api.StripBoard) { b.Spots[1] = l(0, 1, 0) },
		func(b *api.StripBoard) { b.Spots[2] = l(3, 2, 1, 0, 3) },
		func(b *api.StripBoard) { b.Names, b.Spots[0] = 6, l(0, 1, 2, 3, 4, 5) },
		func(b *api.StripBoard) { b.Spots[0] = make([]int, 1000) },
	} {
		bad = append(bad, with(a(), change))
	}
	return bad
}

// P5.1: boards at all limits are as defined.
func TestCheckLimits(t *testing.T) {
	for i, x := range []api.StripBoard{
		a(), b(), c(), two(), largest(), ring(2), ring(6), board(1), board(6), board(1, l(0)), board(1, slices.Repeat([][]int{l(0)}, 6)...), board(5, l(4, 2, 0, 1, 3)), board(6, l(0, 1, 2, 3, 4)), {Names: 3, Spots: [][]int{}},
	} {
		if e := strip.Check(x); e != api.OK {
			t.Error(i, e)
		}
	}
}

// P5.1 to P5.8: all functions return ErrArg for a board that is not as defined, and nothing else.
func TestBadBoards(t *testing.T) {
	for i, x := range badBoards() {
		if e := strip.Check(x); e != api.ErrArg {
			t.Error(i, e)
		}
		if y, e := strip.Misses(x, l(0, 1, 2, 3)); e != api.ErrArg || y != nil {
			t.Error(i, y, e)
		}
		if y, e := strip.First(x); e != api.ErrArg || y != nil {
			t.Error(i, y, e)
		}
		if n, e := strip.Count(x); e != api.ErrArg || n != 0 {
			t.Error(i, n, e)
		}
		refusePair(t, x, 0, 1)
		refuseName(t, x, 0)
		refuseSpot(t, x, l(0))
		if one, other, left, e := strip.Next(x); e != api.ErrArg || one != 0 || other != 0 || left != 0 {
			t.Error(i, one, other, left, e)
		}
		if y, e := strip.Clash(x); e != api.ErrArg || y != nil {
			t.Error(i, y, e)
		}
		if y, e := strip.Wrong(x); e != api.ErrArg || y != nil {
			t.Error(i, y, e)
		}
		if y, e := strip.Blame(x); e != api.ErrArg || y != nil {
			t.Error(i, y, e)
		}
		if n, e := strip.Owners(x); e != api.ErrArg || n != 0 {
			t.Error(i, n, e)
		}
		if text, e := strip.Print(x); e != api.ErrArg || text != "" {
			t.Error(i, text, e)
		}
	}
}

// refusePair checks that the functions of two names return ErrArg, and nothing else.
func refusePair(t *testing.T, x api.StripBoard, one, other int) {
	t.Helper()
	if w, e := strip.Before(x, one, other); e != api.ErrArg || w != 0 {
		t.Error(x, one, other, w, e)
	}
	if is, e := strip.Same(x, one, other); e != api.ErrArg || is {
		t.Error(x, one, other, is, e)
	}
}

// refuseName checks the same of one name.
func refuseName(t *testing.T, x api.StripBoard, name int) {
	t.Helper()
	if s, e := strip.Places(x, name); e != api.ErrArg || s != (api.Span{}) {
		t.Error(x, name, s, e)
	}
}

// refuseSpot checks the same of a further spot.
func refuseSpot(t *testing.T, x api.StripBoard, spot []int) {
	t.Helper()
	if w, e := strip.Adds(x, spot); e != api.ErrArg || w != 0 {
		t.Error(x, spot, w, e)
	}
}

// P5.1: lists that are no orders.
func TestBadOrders(t *testing.T) {
	for i, order := range [][]int{nil, {}, {0}, {0, 1, 2}, {0, 1, 2, 3, 4}, {0, 1, 2, 2}, {0, 0, 1, 2}, {1, 2, 3, 4}, {-1, 0, 1, 2}, {0, 1, 2, 4}, {0, 1, 2, math.MaxInt}, {math.MinInt, 1, 2, 3}, {3, 2, 1, 0, 3}, make([]int, 1000)} {
		for _, x := range []api.StripBoard{a(), b()} {
			if y, e := strip.Misses(x, order); e != api.ErrArg || y != nil {
				t.Error(i, y, e)
			}
		}
	}
}

// P5.2, P5.3 and P5.7: names and spots that are not as defined, also if the spots of the board contradict each other.
func TestBadNamesAndSpots(t *testing.T) {
	for _, x := range []api.StripBoard{a(), b()} {
		for _, name := range []int{-1, 4, 5, math.MinInt, math.MaxInt} {
			refuseName(t, x, name)
			refusePair(t, x, name, 0)
			refusePair(t, x, 0, name)
			refusePair(t, x, name, name)
			refuseSpot(t, x, l(name))
			refuseSpot(t, x, l(0, name))
			refuseSpot(t, x, l(name, 1, 2))
		}
		for name := range 4 {
			refusePair(t, x, name, name)
			refuseSpot(t, x, l(name, name))
			refuseSpot(t, x, l(name, (name+1)%4, name))
		}
		refuseSpot(t, x, nil)
		refuseSpot(t, x, []int{})
		refuseSpot(t, x, make([]int, 1000))
	}
	refuseSpot(t, board(6), l(0, 1, 2, 3, 4, 5))
	refusePair(t, board(1), 0, 0)
	refusePair(t, board(1), 0, 1)
}

// P5.1: the examples of the chapter, and spots of all sizes.
func TestMisses(t *testing.T) {
	for i, x := range []struct {
		b     api.StripBoard
		order []int
		want  []int
	}{
		{a(), l(1, 0, 2, 3), l(0, 1)}, {a(), l(0, 2, 1, 3), nil}, {a(), l(3, 1, 2, 0), l(0, 1, 2)}, {a(), l(2, 3, 1, 0), l(0)}, {b(), l(0, 2, 1, 3), l(3)}, {b(), l(0, 1, 3, 2), l(1, 2)}, {board(1), l(0), nil}, {board(2, l(0), l(1)), l(1, 0), nil},
		// a name of the spot comes after one that is not next to it there
		{board(5, l(0, 1, 2)), l(0, 2, 1, 3, 4), l(0)}, {board(5, l(0, 3, 1)), l(1, 2, 0, 3, 4), l(0)}, {board(5, l(4, 3, 2, 1, 0)), l(4, 3, 2, 0, 1), l(0)}, {board(5, l(4, 3, 2, 1, 0)), l(3, 4, 2, 1, 0), l(0)}, {board(5, l(4, 3, 2, 1, 0)), l(4, 3, 2, 1, 0), nil},
		{largest(), l(5, 4, 0, 3, 2, 1), nil}, {largest(), l(0, 1, 2, 3, 4, 5), l(0, 1, 2, 3, 4, 5)}, {ring(6), l(0, 1, 2, 3, 4, 5), l(5)}, {ring(6), l(5, 4, 3, 2, 1, 0), l(0, 1, 2, 3, 4)},
	} {
		if y, e := strip.Misses(x.b, x.order); e != api.OK || !slices.Equal(y, x.want) {
			t.Error(i, y, e)
		}
	}
}

// P5.1: the examples of the chapter, boards without spots, and spots that contradict each other.
func TestFirstAndCount(t *testing.T) {
	for i, x := range []struct {
		b     api.StripBoard
		first []int
		count int
	}{
		{a(), l(0, 2, 1, 3), 5}, {b(), nil, 0}, {c(), l(2, 0, 1), 1}, {two(), l(0, 1), 1}, {board(1), l(0), 1}, {board(1, l(0)), l(0), 1}, {board(2), l(0, 1), 2}, {board(2, l(1, 0)), l(1, 0), 1}, {board(6), l(0, 1, 2, 3, 4, 5), 720}, {board(6, l(5), l(0)), l(0, 1, 2, 3, 4, 5), 720},
		{largest(), l(0, 5, 4, 3, 2, 1), 6}, {board(6, l(5, 0)), l(1, 2, 3, 4, 5, 0), 360}, {board(4, l(3, 2), l(1, 0)), l(1, 0, 3, 2), 6}, {board(5, l(4, 3, 2, 1, 0)), l(4, 3, 2, 1, 0), 1},
		{ring(2), nil, 0}, {ring(3), nil, 0}, {ring(6), nil, 0}, {board(6, l(0, 1), l(1, 0)), nil, 0}, {board(4, l(0, 1, 2), l(2, 3, 0)), nil, 0},
	} {
		want := api.OK
		if x.first == nil {
			want = api.ErrNone
		}
		if y, e := strip.First(x.b); e != want || !slices.Equal(y, x.first) {
			t.Error(i, y, e)
		}
		if n, e := strip.Count(x.b); e != api.OK || n != x.count {
			t.Error(i, n, e)
		}
	}
}

// P5.1: by all orders that somebody could propose.
func TestOrdersLikeTheModel(t *testing.T) {
	seen := map[bool]int{}
	for _, x := range someBoards(1, 1000) {
		all := modelOrders(x)
		seen[len(all) > 0]++
		first, e := strip.First(x)
		if len(all) == 0 {
			if e != api.ErrNone || first != nil {
				t.Fatal(x, first, e)
			}
		} else if e != api.OK || !slices.Equal(first, all[0]) {
			t.Fatal(x, first, all[0], e)
		}
		if n, e := strip.Count(x); e != api.OK || n != len(all) {
			t.Fatal(x, n, len(all), e)
		}
		for _, order := range allOrders(x.Names) {
			if y, e := strip.Misses(x, order); e != api.OK || !slices.Equal(y, modelMisses(x, order)) {
				t.Fatal(x, order, y, e)
			}
		}
	}
	if seen[true] < 100 || seen[false] < 100 {
		t.Error(seen)
	}
}

// P5.2: the examples of the chapter, and names that are seen at no spot together.
func TestBefore(t *testing.T) {
	for i, x := range []struct {
		b          api.StripBoard
		one, other int
		want       api.StripWord
		e          api.Errno
	}{
		{a(), 0, 1, surely, api.OK}, {a(), 0, 2, may, api.OK}, {a(), 1, 0, never, api.OK}, {a(), 2, 3, surely, api.OK}, {a(), 3, 2, never, api.OK}, {a(), 3, 0, may, api.OK}, {a(), 1, 3, may, api.OK},
		{c(), 2, 1, surely, api.OK}, {c(), 1, 2, never, api.OK}, {board(2), 0, 1, may, api.OK}, {board(2), 1, 0, may, api.OK}, {largest(), 5, 1, surely, api.OK}, {largest(), 0, 5, may, api.OK}, {largest(), 2, 4, never, api.OK},
		// what is before is known by several spots
		{board(6, l(0, 1), l(4, 5), l(2, 3), l(3, 4), l(1, 2)), 0, 5, surely, api.OK}, {board(6, l(0, 1), l(4, 5), l(2, 3), l(3, 4), l(1, 2)), 5, 0, never, api.OK}, {board(6, l(0, 1), l(4, 5), l(2, 3), l(1, 2)), 0, 5, may, api.OK},
		{b(), 0, 1, 0, api.ErrRule}, {b(), 1, 0, 0, api.ErrRule}, {ring(6), 0, 3, 0, api.ErrRule}, {board(6, l(0, 1), l(1, 0)), 4, 5, 0, api.ErrRule},
	} {
		if w, e := strip.Before(x.b, x.one, x.other); e != x.e || w != x.want {
			t.Error(i, w, e)
		}
	}
}

// P5.2: the examples of the chapter, and names at the ends of orders.
func TestPlaces(t *testing.T) {
	for i, x := range []struct {
		b    api.StripBoard
		name int
		want api.Span
		e    api.Errno
	}{
		{a(), 0, span(0, 2), api.OK}, {a(), 1, span(2, 3), api.OK}, {a(), 2, span(0, 1), api.OK}, {a(), 3, span(1, 3), api.OK}, {b(), 0, api.Span{}, api.ErrRule}, {b(), 3, api.Span{}, api.ErrRule},
		{c(), 0, span(1, 1), api.OK}, {board(1), 0, span(0, 0), api.OK}, {board(6), 4, span(0, 5), api.OK}, {largest(), 0, span(0, 5), api.OK}, {largest(), 5, span(0, 1), api.OK}, {largest(), 1, span(4, 5), api.OK}, {largest(), 3, span(2, 3), api.OK},
		{ring(2), 0, api.Span{}, api.ErrRule}, {board(6, l(0, 1), l(1, 0)), 5, api.Span{}, api.ErrRule},
	} {
		if s, e := strip.Places(x.b, x.name); e != x.e || s != x.want {
			t.Error(i, s, e)
		}
	}
}

// P5.2: by all orders that somebody could propose.
func TestBeforeAndPlacesLikeTheModel(t *testing.T) {
	words := map[api.StripWord]int{}
	for _, x := range someBoards(2, 1000) {
		all, rule := modelOrders(x), api.OK
		if len(all) == 0 {
			rule = api.ErrRule
		}
		for one := range x.Names {
			var want api.Span
			for i, order := range all {
				place := slices.Index(order, one)
				if i == 0 {
					want = span(place, place)
				}
				want = span(min(want.Low, place), max(want.High, place))
			}
			if s, e := strip.Places(x, one); e != rule || s != want {
				t.Fatal(x, one, s, want, e)
			}
			for other := range x.Names {
				if one == other {
					continue
				}
				want := modelWord(all, func(order []int) bool { return slices.Index(order, one) < slices.Index(order, other) })
				words[want]++
				if w, e := strip.Before(x, one, other); e != rule || w != want {
					t.Fatal(x, one, other, w, want, e)
				}
			}
		}
	}
	if words[0] < 100 || words[never] < 100 || words[may] < 100 || words[surely] < 100 {
		t.Error(words)
	}
}

// P5.3: the examples of the chapter, and boards with as many spots as there can be.
func TestAdds(t *testing.T) {
	for i, x := range []struct {
		b    api.StripBoard
		spot []int
		want api.StripWord
		e    api.Errno
	}{
		{a(), l(2, 0), may, api.OK}, {a(), l(2, 1), surely, api.OK}, {a(), l(1, 2), never, api.OK}, {a(), l(0), surely, api.OK}, {a(), l(0, 2, 1, 3), may, api.OK}, {a(), l(1, 3, 2), never, api.OK}, {a(), l(2, 0, 1), may, api.OK}, {a(), l(3, 0, 2), never, api.OK},
		{c(), l(2, 0, 1), surely, api.OK}, {c(), l(2, 1), surely, api.OK}, {c(), l(1, 0, 2), never, api.OK}, {board(1), l(0), surely, api.OK}, {board(2), l(1, 0), may, api.OK},
		{largest(), l(5, 4, 3, 2, 1), surely, api.OK}, {largest(), l(5, 1), surely, api.OK}, {largest(), l(0, 5, 4, 3, 2), may, api.OK}, {largest(), l(1, 5), never, api.OK}, {largest(), l(0, 1, 2), never, api.OK},
		{b(), l(0), 0, api.ErrRule}, {b(), l(2, 0), 0, api.ErrRule}, {ring(6), l(0, 1), 0, api.ErrRule},
	} {
		if w, e := strip.Adds(x.b, x.spot); e != x.e || w != x.want {
			t.Error(i, w, e)
		}
	}
}

// P5.3: by all orders that somebody could propose.
func TestAddsLikeTheModel(t *testing.T) {
	roll := dice(3)
	words := map[api.StripWord]int{}
	for _, x := range someBoards(4, 1000) {
		all, rule := modelOrders(x), api.OK
		if len(all) == 0 {
			rule = api.ErrRule
		}
		spots := allSpots(x.Names)
		if len(spots) > 15 {
			spots = nil
			for range 8 {
				more := roll.board(x.Names, 1)
				spots = append(spots, more.Spots...)
			}
		}
		for _, spot := range spots {
			want := modelWord(all, func(order []int) bool { return !contradicts(spot, order) })
			words[want]++
			if w, e := strip.Adds(x, spot); e != rule || w != want {
				t.Fatal(x, spot, w, want, e)
			}
		}
	}
	if words[0] < 100 || words[never] < 100 || words[may] < 100 || words[surely] < 100 {
		t.Error(words)
	}
}

// P5.4 and P5.5: the examples of the chapter, several lists as short, and spots that do not contradict each other.
func TestWrongSpots(t *testing.T) {
	for i, x := range []struct {
		b     api.StripBoard
		clash []int
		wrong []int
		blame []api.StripWord
	}{
		{a(), nil, nil, []api.StripWord{never, never, never}}, {b(), l(1, 3), l(3), []api.StripWord{never, never, never, surely}}, {board(1), nil, nil, nil}, {board(6), nil, nil, nil}, {largest(), nil, nil, slices.Repeat([]api.StripWord{never}, 6)},
		{ring(2), l(0, 1), l(0), []api.StripWord{may, may}}, {ring(3), l(0, 1, 2), l(0), []api.StripWord{may, may, may}}, {ring(6), l(0, 1, 2, 3, 4, 5), l(0), slices.Repeat([]api.StripWord{may}, 6)},
		// a shorter list of spots comes later
		{board(4, l(0, 1), l(1, 2), l(2, 0), l(3, 0), l(0, 3)), l(3, 4), l(0, 3), []api.StripWord{may, may, may, may, may}},
		// one spot is wrong in all lists, others in some
		{board(5, l(0, 1), l(1, 2, 0), l(3, 4), l(4, 3), l(2, 1)), l(0, 1), l(1, 2), []api.StripWord{never, surely, may, may, never}},
		// the first list has not the first spot of the clash
		{board(3, l(0), l(1, 0), l(0, 1), l(0, 2, 1)), l(1, 2), l(1), []api.StripWord{never, surely, never, never}}, {board(3, l(0, 1), l(0, 1), l(1, 0)), l(0, 2), l(2), []api.StripWord{never, never, surely}}, {board(2, l(0, 1), l(0, 1), l(1, 0), l(1, 0)), l(0, 2), l(0, 1), []api.StripWord{may, may, may, may}}, {board(2, slices.Repeat([][]int{l(1, 0), l(0, 1)}, 3)...), l(0, 1), l(0, 2, 4), slices.Repeat([]api.StripWord{may}, 6)},
	} {
		want := api.OK
		if x.clash == nil {
			want = api.ErrNone
		}
		if y, e := strip.Clash(x.b); e != want || !slices.Equal(y, x.clash) {
			t.Error(i, y, e)
		}
		if y, e := strip.Wrong(x.b); e != api.OK || !slices.Equal(y, x.wrong) {
			t.Error(i, y, e)
		}
		if y, e := strip.Blame(x.b); e != api.OK || !slices.Equal(y, x.blame) {
			t.Error(i, y, e)
		}
	}
}

// P5.4 and P5.5: by all lists of spots that somebody could propose.
func TestWrongSpotsLikeTheModel(t *testing.T) {
	seen := map[int]int{}
	for _, x := range someBoards(5, 2000) {
		clash, found := modelClash(x)
		want := api.ErrNone
		if found {
			want = api.OK
		}
		if y, e := strip.Clash(x); e != want || !slices.Equal(y, clash) {
			t.Fatal(x, y, clash, e)
		}
		all := modelWrong(x)
		seen[len(all[0])]++
		if y, e := strip.Wrong(x); e != api.OK || !slices.Equal(y, all[0]) {
			t.Fatal(x, y, all, e)
		}
		words, e := strip.Blame(x)
		if e != api.OK || len(words) != len(x.Spots) {
			t.Fatal(x, words, e)
		}
		for spot, w := range words {
			if want := modelWord(all, func(wrong []int) bool { return slices.Contains(wrong, spot) }); w != want {
				t.Fatal(x, spot, w, want)
			}
		}
		for _, wrong := range all {
			if found && !slices.ContainsFunc(clash, func(spot int) bool { return slices.Contains(wrong, spot) }) {
				t.Fatal(x, clash, wrong)
			}
		}
	}
	if seen[0] < 100 || seen[1] < 100 || seen[2] < 50 || seen[3] < 1 {
		t.Error(seen)
	}
}

// P5.5: whatever order somebody proposes, as many spots contradict it as must be wrong, or more; and no more contradict some order.
func TestFewestWrongSpots(t *testing.T) {
	for _, x := range someBoards(6, 1000) {
		wrong, e := strip.Wrong(x)
		if e != api.OK {
			t.Fatal(x, e)
		}
		fewest := len(x.Spots)
		for _, order := range allOrders(x.Names) {
			fewest = min(fewest, len(modelMisses(x, order)))
		}
		if len(wrong) != fewest {
			t.Fatal(x, wrong, fewest)
		}
	}
}

// P5.6: the example of the chapter, one name alone, one order alone, and pairs that are as good.
func TestNext(t *testing.T) {
	for i, x := range []struct {
		b                api.StripBoard
		one, other, left int
		e                api.Errno
	}{
		{a(), 0, 2, 3, api.OK}, {b(), 0, 0, 0, api.ErrRule}, {c(), 0, 1, 1, api.OK}, {two(), 0, 1, 1, api.OK}, {board(2), 0, 1, 1, api.OK}, {board(6), 0, 1, 360, api.OK}, {largest(), 0, 3, 3, api.OK},
		{board(1), 0, 0, 0, api.ErrNone}, {board(1, l(0)), 0, 0, 0, api.ErrNone}, {ring(2), 0, 0, 0, api.ErrRule}, {ring(5), 0, 0, 0, api.ErrRule},
		// what is known already does not help
		{board(3, l(0, 1)), 0, 2, 2, api.OK}, {board(4, l(0, 1, 2)), 1, 3, 2, api.OK}, {board(5, l(0, 1, 2), l(3, 4)), 0, 3, 6, api.OK}, {board(4, l(0, 1), l(2, 3)), 0, 2, 3, api.OK}, {board(4, l(0, 1), l(0, 2), l(0, 3)), 1, 2, 3, api.OK},
	} {
		if one, other, left, e := strip.Next(x.b); e != x.e || one != x.one || other != x.other || left != x.left {
			t.Error(i, one, other, left, e)
		}
	}
}

// P5.6: by all pairs that somebody could propose.
func TestNextLikeTheModel(t *testing.T) {
	seen := map[api.Errno]int{}
	for _, x := range someBoards(7, 1000) {
		all := modelOrders(x)
		want, best := api.ErrNone, [3]int{}
		for one := range x.Names {
			for other := one + 1; other < x.Names; other++ {
				before := 0
				for _, order := range all {
					if slices.Index(order, one) < slices.Index(order, other) {
						before++
					}
				}
				if left := max(before, len(all)-before); want == api.ErrNone || left < best[2] {
					want, best = api.OK, [3]int{one, other, left}
				}
			}
		}
		if len(all) == 0 {
			want, best = api.ErrRule, [3]int{}
		}
		seen[want]++
		if one, other, left, e := strip.Next(x); e != want || [3]int{one, other, left} != best {
			t.Fatal(x, one, other, left, best, e)
		}
	}
	if seen[api.OK] < 100 || seen[api.ErrRule] < 100 || seen[api.ErrNone] < 3 {
		t.Error(seen)
	}
}

// P5.7: the examples of the chapter, names that are seen together, and names by which spots would contradict each other.
func TestSame(t *testing.T) {
	for i, x := range []struct {
		b          api.StripBoard
		one, other int
		want       bool
	}{
		{a(), 0, 2, true}, {a(), 0, 1, false}, {c(), 1, 2, false}, {c(), 0, 1, false}, {a(), 1, 3, true}, {a(), 0, 3, true}, {a(), 1, 2, false}, {a(), 2, 3, false}, {board(2), 0, 1, true}, {two(), 0, 1, false}, {board(2, l(0), l(1)), 0, 1, true},
		// seen together, but not next to each other
		{board(3, l(0, 2, 1)), 0, 1, false}, {board(6, l(0, 2, 3, 4, 1)), 0, 1, false}, {board(6, l(0, 2, 3, 4, 1)), 5, 3, true},
		// one is before the other by several spots
		{board(4, l(0, 1), l(2, 3), l(1, 2)), 0, 3, false}, {board(4, l(0, 1), l(2, 3)), 0, 3, true}, {board(4, l(0, 1), l(1, 2)), 0, 2, false}, {board(4, l(0, 1), l(2, 3)), 1, 2, true}, {board(4, l(0, 1), l(2, 3)), 1, 3, true},
		// the spots contradict each other already
		{b(), 0, 2, false}, {b(), 0, 3, false}, {ring(4), 0, 2, false}, {board(6, l(0, 1), l(1, 0)), 4, 5, false}, {ring(2), 0, 1, false},
	} {
		if is, e := strip.Same(x.b, x.one, x.other); e != api.OK || is != x.want {
			t.Error(i, is, e)
		}
		if is, e := strip.Same(x.b, x.other, x.one); e != api.OK || is != x.want {
			t.Error(i, is, e)
		}
	}
}

// P5.7: the examples of the chapter, and boards with one owner or many.
func TestOwners(t *testing.T) {
	for i, x := range []struct {
		b    api.StripBoard
		want int
		e    api.Errno
	}{
		{a(), 2, api.OK}, {c(), 3, api.OK}, {b(), 0, api.ErrRule}, {two(), 2, api.OK}, {board(1), 1, api.OK}, {board(6), 1, api.OK}, {board(6, l(0), l(5)), 1, api.OK}, {largest(), 5, api.OK}, {ring(2), 0, api.ErrRule}, {ring(6), 0, api.ErrRule},
		{board(6, l(4, 5), l(2, 3), l(3, 4), l(1, 2), l(0, 1)), 6, api.OK}, {board(6, l(0, 1), l(2, 3), l(4, 5)), 2, api.OK}, {board(6, l(0, 1, 2), l(3, 1, 4), l(4, 5)), 4, api.OK}, {board(6, l(0, 5), l(1, 5), l(2, 5), l(3, 5), l(4, 5)), 2, api.OK},
	} {
		if n, e := strip.Owners(x.b); e != x.e || n != x.want {
			t.Error(i, n, e)
		}
	}
}

// P5.7: by all numbers that somebody could propose to give to the names.
func TestOwnersLikeTheModel(t *testing.T) {
	owners, same := map[int]int{}, map[bool]int{}
	for _, x := range someBoards(8, 1000) {
		want, rule := modelOwners(x), api.OK
		if len(modelOrders(x)) == 0 {
			want, rule = 0, api.ErrRule
		}
		owners[want]++
		if n, e := strip.Owners(x); e != rule || n != want {
			t.Fatal(x, n, want, e)
		}
		for one := range x.Names {
			for other := range x.Names {
				if one == other {
					continue
				}
				want := modelSame(x, one, other)
				same[want]++
				if is, e := strip.Same(x, one, other); e != api.OK || is != want {
					t.Fatal(x, one, other, is, want, e)
				}
			}
		}
	}
	for count := range 6 {
		if owners[count] < 10 {
			t.Error(owners)
		}
	}
	if same[true] < 100 || same[false] < 100 {
		t.Error(same)
	}
}
