package bench_test

import (
	"math"
	"slices"
	"testing"

	"mahlstick/api"
	"mahlstick/bench"
)

const (
	never  = api.BenchNever
	may    = api.BenchMay
	surely = api.BenchSurely
)

func l(numbers ...int) []int { return numbers }

func span(low, high int) api.Span { return api.Span{Low: low, High: high} }

func words(all ...api.BenchWord) []api.BenchWord { return all }

// straight and round return strokes of a board.
func straight(board, low, high int, needs ...int) api.BenchStroke {
	return api.BenchStroke{Board: board, Hours: span(low, high), Needs: needs}
}

func round(board, low, high int, needs ...int) api.BenchStroke {
	return api.BenchStroke{Board: board, Round: true, Hours: span(low, high), Needs: needs}
}

// of returns a bench with some apprentices, boards and strokes.
func of(apprentices int, boards []int, strokes ...api.BenchStroke) api.BenchBook {
	return api.BenchBook{Apprentices: apprentices, Boards: boards, Strokes: strokes}
}

// b returns the bench of the chapter, and one the one that has a text.
func b() api.BenchBook {
	return of(1, l(5, 6), round(1, 2, 2), straight(0, 2, 3), round(0, 1, 2, 1), straight(1, 1, 3, 0))
}
func one() api.BenchBook { return of(0, l(0), straight(0, 1, 1)) }

// largest returns a bench that has as much of everything as can be.
func largest() api.BenchBook {
	return of(3, l(60, 60, 60), straight(2, 6, 6), straight(2, 6, 6, 0), straight(2, 6, 6, 0, 1), straight(2, 6, 6, 0, 1, 2), straight(2, 6, 6, 0, 1, 2, 3), straight(2, 6, 6, 0, 1, 2, 3, 4))
}

// alone returns a bench whose strokes need nothing, each of as many hours as is said.
func alone(apprentices int, hours ...int) api.BenchBook {
	x := of(apprentices, l(0))
	for _, h := range hours {
		x.Strokes = append(x.Strokes, straight(0, h, h))
	}
	return x
}

// badBenches returns benches that are not as defined, each by one change.
func badBenches() []api.BenchBook {
	bad := []api.BenchBook{{}}
	for _, change := range []func(*api.BenchBook){
		func(b *api.BenchBook) { b.Apprentices = -1 },
		func(b *api.BenchBook) { b.Apprentices = 4 },
		func(b *api.BenchBook) { b.Apprentices = math.MinInt },
		func(b *api.BenchBook) { b.Apprentices = math.MaxInt },
		func(b *api.BenchBook) { b.Boards = nil },
		func(b *api.BenchBook) { b.Boards = l(5) },
		func(b *api.BenchBook) { b.Boards = l(5, 6, 7, 8) },
		func(b *api.BenchBook) { b.Boards = make([]int, 1000) },
		func(b *api.BenchBook) { b.Boards[0] = -1 },
		func(b *api.BenchBook) { b.Boards[1] = 61 },
		func(b *api.BenchBook) { b.Boards[0] = math.MinInt },
		func(b *api.BenchBook) { b.Boards[1] = math.MaxInt },
		func(b *api.BenchBook) { b.Strokes = nil },
		func(b *api.BenchBook) { b.Strokes = []api.BenchStroke{} },
		func(b *api.BenchBook) { b.Strokes = slices.Repeat(b.Strokes[:1], 7) },
		func(b *api.BenchBook) { b.Strokes = slices.Repeat(b.Strokes[:1], 1000) },
		func(b *api.BenchBook) { b.Strokes = append(b.Strokes, api.BenchStroke{}) },
		func(b *api.BenchBook) { b.Strokes[0].Board = -1 },
		func(b *api.BenchBook) { b.Strokes[3].Board = 2 },
		func(b *api.BenchBook) { b.Strokes[1].Board = math.MinInt },
		func(b *api.BenchBook) { b.Strokes[2].Board = math.MaxInt },
		func(b *api.BenchBook) { b.Strokes[0].Hours = span(0, 2) },
		func(b *api.BenchBook) { b.Strokes[1].Hours = span(3, 2) },
		func(b *api.BenchBook) { b.Strokes[2].Hours = span(1, 7) },
		func(b *api.BenchBook) { b.Strokes[3].Hours = span(7, 7) },
		func(b *api.BenchBook) { b.Strokes[3].Hours = span(math.MinInt, math.MaxInt) },
		func(b *api.BenchBook) { b.Strokes[0].Hours = span(math.MaxInt, math.MinInt) },
		func(b *api.BenchBook) { b.Strokes[0].Needs = l(0) },
		func(b *api.BenchBook) { b.Strokes[1].Needs = l(2) },
		func(b *api.BenchBook) { b.Strokes[3].Needs = l(-1) },
		func(b *api.BenchBook) { b.Strokes[3].Needs = l(0, 0) },
		func(b *api.BenchBook) { b.Strokes[3].Needs = l(0, 2, 1) },
		func(b *api.BenchBook) { b.Strokes[3].Needs = l(0, 1, 2, 3) },
		func(b *api.BenchBook) { b.Strokes[3].Needs = l(math.MinInt, 1) },
		func(b *api.BenchBook) { b.Strokes[3].Needs = l(1, math.MaxInt) },
		func(b *api.BenchBook) { b.Strokes[3].Needs = make([]int, 1000) },
	} {
		bad = append(bad, with(b(), change))
	}
	return bad
}

// P6.1: benches at all limits are as defined.
func TestCheckLimits(t *testing.T) {
	for i, x := range []api.BenchBook{
		b(), one(), largest(), of(3, l(0, 60, 0), round(2, 1, 6)), alone(0, 1, 2, 3, 4, 5, 6), alone(3, 6),
		{Boards: l(60), Strokes: []api.BenchStroke{{Hours: span(1, 6), Needs: []int{}}}},
		of(0, l(1), straight(0, 1, 1), round(0, 1, 1, 0), straight(0, 1, 1, 1), round(0, 6, 6, 0, 2)),
	} {
		if e := bench.Check(x); e != api.OK {
			t.Error(i, e)
		}
	}
}

// refusePlan checks that the functions of a plan return ErrArg, and nothing else.
func refusePlan(t *testing.T, x api.BenchBook, plan []int) {
	t.Helper()
	if y, e := bench.Ends(x, plan); e != api.ErrArg || y != nil {
		t.Error(x, plan, y, e)
	}
	if y, e := bench.Late(x, plan); e != api.ErrArg || y != nil {
		t.Error(x, plan, y, e)
	}
	if y, e := bench.Waits(x, plan); e != api.ErrArg || y != nil {
		t.Error(x, plan, y, e)
	}
	if y, e := bench.Chain(x, plan); e != api.ErrArg || y != nil {
		t.Error(x, plan, y, e)
	}
	refuseBoard(t, x, plan, 0)
	refuseStroke(t, x, plan, 0)
}

// refuseBoard checks the same of a plan and a board.
func refuseBoard(t *testing.T, x api.BenchBook, plan []int, board int) {
	t.Helper()
	if y, e := bench.Done(x, plan, board); e != api.ErrArg || y != (api.Span{}) {
		t.Error(x, plan, board, y, e)
	}
}

// refuseStroke checks the same of a plan and a stroke.
func refuseStroke(t *testing.T, x api.BenchBook, plan []int, stroke int) {
	t.Helper()
	if n, e := bench.Spare(x, plan, stroke); e != api.ErrArg || n != 0 {
		t.Error(x, plan, stroke, n, e)
	}
	if hand, n, e := bench.Give(x, plan, stroke); e != api.ErrArg || hand != 0 || n != 0 {
		t.Error(x, plan, stroke, hand, n, e)
	}
}

// refuseWho checks the same of a stroke alone.
func refuseWho(t *testing.T, x api.BenchBook, stroke int) {
	t.Helper()
	if y, e := bench.Who(x, stroke); e != api.ErrArg || y != nil {
		t.Error(x, stroke, y, e)
	}
}

// refuseHours checks the same of hours.
func refuseHours(t *testing.T, x api.BenchBook, hours int) {
	t.Helper()
	if n, e := bench.Least(x, hours); e != api.ErrArg || n != 0 {
		t.Error(x, hours, n, e)
	}
}

// P6.1 to P6.6: all functions return ErrArg for a bench that is not as defined, and nothing else.
func TestBadBenches(t *testing.T) {
	for i, x := range badBenches() {
		if e := bench.Check(x); e != api.ErrArg {
			t.Error(i, e)
		}
		refusePlan(t, x, l(0, 1, 0, 1))
		refusePlan(t, x, slices.Repeat(l(0), len(x.Strokes)))
		refuseWho(t, x, 0)
		refuseHours(t, x, 60)
		if y, n, e := bench.Best(x); e != api.ErrArg || y != nil || n != 0 {
			t.Error(i, y, n, e)
		}
		if n, e := bench.Count(x); e != api.ErrArg || n != 0 {
			t.Error(i, n, e)
		}
		if n, e := bench.More(x); e != api.ErrArg || n != 0 {
			t.Error(i, n, e)
		}
		if text, e := bench.Print(x); e != api.ErrArg || text != "" {
			t.Error(i, text, e)
		}
	}
}

// P6.1, P6.2, P6.3 and P6.5: lists that are no plans.
func TestBadPlans(t *testing.T) {
	for _, plan := range [][]int{nil, {}, {0}, {0, 1, 0}, {0, 1, 0, 1, 0}, {0, 2, 0, 1}, {0, 1, 0, 2}, {0, 0, 0, -1}, {-1, 0, 0, 0}, {1, 1, 0, 1}, {0, 1, 1, 1}, {1, 1, 1, 1}, {0, math.MaxInt, 0, 0}, {0, 0, 0, math.MinInt}, make([]int, 1000)} {
		refusePlan(t, b(), plan)
	}
	refusePlan(t, one(), l(1))
	refusePlan(t, largest(), l(0, 1, 2, 3, 4, 0))
	refusePlan(t, of(3, l(0), round(0, 1, 1)), l(3))
}

// P6.1, P6.3, P6.4 and P6.5: numbers of boards and strokes that do not exist, and hours that cannot be.
func TestBadNumbers(t *testing.T) {
	plan := l(0, 1, 0, 1)
	for _, n := range []int{-1, 4, 5, math.MinInt, math.MaxInt} {
		refuseBoard(t, b(), plan, n)
		refuseStroke(t, b(), plan, n)
		refuseWho(t, b(), n)
	}
	refuseBoard(t, b(), plan, 2)
	refuseBoard(t, one(), l(0), 1)
	refuseStroke(t, one(), l(0), 1)
	refuseWho(t, one(), 1)
	for _, n := range []int{-1, 61, math.MinInt, math.MaxInt} {
		refuseHours(t, b(), n)
	}
}

// P6.1: the examples of the chapter, and strokes that wait for their hand, for others, for both and for none.
func TestEnds(t *testing.T) {
	for i, x := range []struct {
		b    api.BenchBook
		plan []int
		want []api.Span
	}{
		{b(), l(0, 1, 0, 1), []api.Span{span(2, 2), span(2, 3), span(3, 5), span(3, 6)}},
		{b(), l(0, 1, 0, 0), []api.Span{span(2, 2), span(2, 3), span(3, 5), span(4, 8)}},
		{b(), l(0, 0, 0, 1), []api.Span{span(2, 2), span(4, 5), span(5, 7), span(3, 5)}},
		{b(), l(0, 0, 0, 0), []api.Span{span(2, 2), span(4, 5), span(5, 7), span(6, 10)}},
		{with(b(), func(b *api.BenchBook) { b.Apprentices = 2 }), l(0, 1, 0, 2), []api.Span{span(2, 2), span(2, 3), span(3, 5), span(3, 5)}},
		{one(), l(0), []api.Span{span(1, 1)}},
		{largest(), l(3, 2, 1, 0, 1, 2), []api.Span{span(6, 6), span(12, 12), span(18, 18), span(24, 24), span(30, 30), span(36, 36)}},
		{alone(1, 1, 2, 3, 4), l(0, 0, 0, 0), []api.Span{span(1, 1), span(3, 3), span(6, 6), span(10, 10)}},
		{alone(3, 1, 2, 3, 4), l(3, 1, 3, 1), []api.Span{span(1, 1), span(2, 2), span(4, 4), span(6, 6)}},
		// a later stroke does not come before an earlier one of its hand, though it could
		{of(1, l(0), straight(0, 1, 6), straight(0, 1, 1, 0), straight(0, 2, 2)), l(0, 1, 1), []api.Span{span(1, 6), span(2, 7), span(4, 9)}},
	} {
		if y, e := bench.Ends(x.b, x.plan); e != api.OK || !slices.Equal(y, x.want) {
			t.Error(i, y, e)
		}
	}
}

// P6.1: the examples of the chapter, and a board without strokes.
func TestDone(t *testing.T) {
	for i, x := range []struct {
		b     api.BenchBook
		plan  []int
		board int
		want  api.Span
	}{
		{b(), l(0, 1, 0, 1), 0, span(3, 5)}, {b(), l(0, 1, 0, 1), 1, span(3, 6)}, {b(), l(0, 0, 0, 0), 0, span(5, 7)}, {b(), l(0, 0, 0, 0), 1, span(6, 10)}, {one(), l(0), 0, span(1, 1)},
		{of(0, l(0, 0, 0), straight(1, 2, 3)), l(0), 0, span(0, 0)}, {of(0, l(0, 0, 0), straight(1, 2, 3)), l(0), 1, span(2, 3)}, {of(0, l(0, 0, 0), straight(1, 2, 3)), l(0), 2, span(0, 0)},
		// the last stroke of a board need not have its last number, nor be the same one soonest and latest
		{of(1, l(0), straight(0, 3, 3), straight(0, 1, 2)), l(0, 1), 0, span(3, 3)}, {of(1, l(0), straight(0, 1, 6), straight(0, 2, 2)), l(0, 1), 0, span(2, 6)},
	} {
		if y, e := bench.Done(x.b, x.plan, x.board); e != api.OK || y != x.want {
			t.Error(i, y, e)
		}
	}
}

// P6.2: the examples of the chapter, and boards that are done just when they are due.
func TestLate(t *testing.T) {
	for i, x := range []struct {
		b    api.BenchBook
		plan []int
		want []api.BenchWord
	}{
		{b(), l(0, 1, 0, 1), words(never, never)}, {b(), l(0, 1, 0, 0), words(never, may)}, {b(), l(0, 0, 0, 0), words(may, may)}, {one(), l(0), words(surely)},
		{of(0, l(2), straight(0, 3, 5)), l(0), words(surely)}, {of(0, l(3), straight(0, 3, 5)), l(0), words(may)}, {of(0, l(4), straight(0, 3, 5)), l(0), words(may)}, {of(0, l(5), straight(0, 3, 5)), l(0), words(never)}, {of(0, l(0, 0, 60), straight(1, 1, 1)), l(0), words(never, surely, never)},
	} {
		if y, e := bench.Late(x.b, x.plan); e != api.OK || !slices.Equal(y, x.want) {
			t.Error(i, y, e)
		}
	}
}

// P6.2: the example of the chapter, and hands that wait before their first stroke, or not at all.
func TestWaits(t *testing.T) {
	for i, x := range []struct {
		b    api.BenchBook
		plan []int
		want []int
	}{
		{b(), l(0, 1, 0, 1), l(0, 0, 1, 0)}, {b(), l(0, 0, 0, 0), l(0, 0, 0, 0)}, {b(), l(0, 0, 0, 1), l(0, 0, 0, 2)}, {one(), l(0), l(0)}, {largest(), l(3, 2, 1, 0, 1, 2), l(0, 6, 12, 18, 6, 18)}, {alone(2, 1, 2, 3, 4), l(2, 1, 2, 0), l(0, 0, 0, 0)},
		{of(1, l(0), straight(0, 1, 6), straight(0, 1, 1, 0), straight(0, 2, 2)), l(0, 1, 1), l(0, 6, 0)},
	} {
		if y, e := bench.Waits(x.b, x.plan); e != api.OK || !slices.Equal(y, x.want) {
			t.Error(i, y, e)
		}
	}
}

// P6.3: the examples of the chapter, and the first one of several chains.
func TestChain(t *testing.T) {
	for i, x := range []struct {
		b    api.BenchBook
		plan []int
		want []int
	}{
		{b(), l(0, 1, 0, 1), l(1, 3)}, {b(), l(0, 0, 0, 0), l(0, 1, 2, 3)}, {b(), l(0, 0, 0, 1), l(0, 1, 2)}, {b(), l(0, 1, 0, 0), l(1, 2, 3)}, {one(), l(0), l(0)},
		{alone(1, 2, 2), l(0, 1), l(0)}, {alone(1, 2, 3), l(0, 1), l(1)}, {alone(2, 1, 2, 2, 1), l(0, 1, 2, 0), l(0, 3)}, {alone(2, 1, 3, 3, 1), l(0, 1, 2, 0), l(1)},
		// the stroke 2 needs both, and both end when it begins
		{of(2, l(0), straight(0, 2, 2), straight(0, 1, 2), straight(0, 1, 1, 0, 1)), l(1, 0, 2), l(0, 2)}, {of(2, l(0), straight(0, 2, 2), straight(0, 1, 2), straight(0, 1, 1, 1)), l(1, 0, 2), l(1, 2)},
		// the stroke 0 ends when the stroke 2 begins, which has another hand and does not need it
		{of(2, l(0), straight(0, 2, 2), straight(0, 2, 2), straight(0, 1, 1), straight(0, 1, 1)), l(0, 1, 1, 2), l(1, 2)},
		// a beginning of a chain that leads nowhere
		{of(2, l(0), straight(0, 1, 1), straight(0, 1, 1, 0), straight(0, 3, 3), straight(0, 1, 1, 1)), l(0, 0, 1, 2), l(0, 1, 3)}, {of(2, l(0), straight(0, 1, 1), straight(0, 1, 1, 0), straight(0, 4, 4), straight(0, 1, 1, 1)), l(0, 0, 1, 2), l(2)},
		{largest(), l(3, 2, 1, 0, 1, 2), l(0, 1, 2, 3, 4, 5)},
	} {
		if y, e := bench.Chain(x.b, x.plan); e != api.OK || !slices.Equal(y, x.want) {
			t.Error(i, y, e)
		}
	}
}

// P6.3: the examples of the chapter, and strokes with much to spare.
func TestSpare(t *testing.T) {
	for i, x := range []struct {
		b            api.BenchBook
		plan         []int
		stroke, want int
	}{
		{b(), l(0, 1, 0, 1), 0, 1}, {b(), l(0, 1, 0, 1), 1, 0}, {b(), l(0, 1, 0, 1), 2, 1}, {b(), l(0, 1, 0, 1), 3, 0}, {one(), l(0), 0, 0}, {largest(), l(0, 1, 2, 3, 0, 1), 3, 0},
		{alone(1, 1, 6, 3), l(1, 0, 0), 0, 8}, {alone(1, 1, 6, 4), l(1, 0, 0), 0, 9}, {alone(1, 1, 6, 5), l(1, 0, 0), 0, 9}, {alone(1, 1, 6, 6, 6, 6, 6), l(1, 0, 0, 0, 0, 0), 0, 9}, {alone(1, 1, 6, 6, 6, 6, 6), l(1, 0, 0, 0, 0, 0), 3, 0},
		// the least hours do not matter
		{of(1, l(0), straight(0, 1, 4), straight(0, 1, 5)), l(0, 1), 0, 1},
	} {
		if n, e := bench.Spare(x.b, x.plan, x.stroke); e != api.OK || n != x.want {
			t.Error(i, n, e)
		}
	}
}

// P6.4: the examples of the chapter, and benches with one plan alone, and with most of them.
func TestBestAndCount(t *testing.T) {
	for i, x := range []struct {
		b            api.BenchBook
		plan         []int
		hours, count int
	}{
		{b(), l(0, 1, 0, 1), 6, 1}, {one(), l(0), 1, 1}, {alone(0, 1, 2, 3), l(0, 0, 0), 6, 1}, {alone(3, 4), l(0), 4, 4}, {alone(3, 1, 1, 1, 1), l(0, 1, 2, 3), 1, 24}, {alone(3, 6, 6, 6, 6, 6, 6), l(0, 0, 1, 1, 2, 2), 12, 1440}, {alone(1, 2, 2, 4), l(0, 0, 1), 4, 2}, {largest(), l(0, 0, 0, 0, 0, 0), 36, 4096},
		{of(3, l(0), round(0, 1, 1), round(0, 2, 2), round(0, 3, 3)), l(0, 0, 0), 6, 1}, {of(1, l(0), straight(0, 1, 2), round(0, 2, 2)), l(1, 0), 2, 1},
	} {
		if y, n, e := bench.Best(x.b); e != api.OK || !slices.Equal(y, x.plan) || n != x.hours {
			t.Error(i, y, n, e)
		}
		if n, e := bench.Count(x.b); e != api.OK || n != x.count {
			t.Error(i, n, e)
		}
	}
}

// P6.4: the examples of the chapter, and strokes that some hands do in no best plan.
func TestWho(t *testing.T) {
	for i, x := range []struct {
		b      api.BenchBook
		stroke int
		want   []int
	}{
		{b(), 0, l(0)}, {b(), 1, l(1)}, {b(), 2, l(0)}, {b(), 3, l(1)}, {one(), 0, l(0)}, {alone(3, 1, 1), 1, l(0, 1, 2, 3)}, {of(3, l(0), round(0, 6, 6), straight(0, 1, 1)), 1, l(1, 2, 3)}, {of(3, l(0), round(0, 6, 6), straight(0, 1, 1)), 0, l(0)}, {alone(1, 2, 2, 4), 2, l(0, 1)}, {largest(), 5, l(0, 1, 2, 3)},
	} {
		if y, e := bench.Who(x.b, x.stroke); e != api.OK || !slices.Equal(y, x.want) {
			t.Error(i, y, e)
		}
	}
}

// P6.5: the examples of the chapter, and strokes that stay where they are.
func TestGive(t *testing.T) {
	for i, x := range []struct {
		b                   api.BenchBook
		plan                []int
		stroke, hand, hours int
	}{
		{b(), l(0, 0, 0, 0), 1, 1, 8}, {b(), l(0, 0, 0, 0), 3, 1, 7}, {b(), l(0, 0, 0, 0), 0, 0, 10}, {b(), l(0, 0, 0, 0), 2, 0, 10}, {b(), l(0, 1, 0, 1), 1, 1, 6}, {b(), l(0, 1, 0, 1), 2, 0, 6}, {one(), l(0), 0, 0, 1},
		// of several hands the first one, also if the stroke has another one already
		{alone(3, 4), l(3), 0, 0, 4}, {alone(3, 4, 4), l(0, 3), 1, 1, 4}, {alone(3, 4, 4, 1), l(3, 0, 3), 2, 1, 4}, {of(3, l(0), straight(0, 6, 6), round(0, 1, 1)), l(0, 0), 1, 0, 7},
	} {
		if hand, n, e := bench.Give(x.b, x.plan, x.stroke); e != api.OK || hand != x.hand || n != x.hours {
			t.Error(i, hand, n, e)
		}
	}
}

// P6.5: the example of the chapter, and benches that have all apprentices already.
func TestMore(t *testing.T) {
	for i, x := range []struct {
		b    api.BenchBook
		want int
		e    api.Errno
	}{
		{b(), 5, api.OK}, {one(), 1, api.OK}, {alone(0, 3, 3), 3, api.OK}, {alone(1, 1, 1, 1), 1, api.OK}, {alone(2, 6, 6, 6, 6), 6, api.OK}, {of(2, l(0), round(0, 1, 4), round(0, 1, 2)), 6, api.OK}, {alone(3, 1), 0, api.ErrLong}, {largest(), 0, api.ErrLong},
		// a bench that is not as defined has ErrArg first
		{alone(3), 0, api.ErrArg}, {alone(3, 7), 0, api.ErrArg}, {alone(4, 1), 0, api.ErrArg},
	} {
		if n, e := bench.More(x.b); e != x.e || n != x.want {
			t.Error(i, n, e)
		}
	}
}

// P6.5: the examples of the chapter; how many apprentices the bench has does not matter.
func TestLeast(t *testing.T) {
	for i, x := range []struct {
		b           api.BenchBook
		hours, want int
		e           api.Errno
	}{
		{b(), 6, 1, api.OK}, {b(), 5, 2, api.OK}, {b(), 10, 0, api.OK}, {b(), 4, 0, api.ErrNone}, {b(), 9, 1, api.OK}, {b(), 60, 0, api.OK}, {b(), 0, 0, api.ErrNone}, {one(), 1, 0, api.OK}, {one(), 0, 0, api.ErrNone},
		{alone(0, 3, 3, 3, 3), 3, 3, api.OK}, {alone(0, 3, 3, 3, 3, 3), 3, 0, api.ErrNone}, {alone(0, 3, 3, 3, 3, 3), 6, 2, api.OK}, {largest(), 36, 0, api.OK}, {largest(), 35, 0, api.ErrNone},
	} {
		for apprentices := range 4 {
			y := with(x.b, func(b *api.BenchBook) { b.Apprentices = apprentices })
			if n, e := bench.Least(y, x.hours); e != x.e || n != x.want {
				t.Error(i, n, e)
			}
		}
	}
}

// P6.1 to P6.3: what is returned of a plan is what the definitions say.
func TestPlansLikeTheModel(t *testing.T) {
	roll := dice(1)
	seen := map[api.BenchWord]int{}
	waited, spared := map[int]int{}, map[int]int{}
	lengths := map[int]int{}
	for range 1500 {
		x := roll.any()
		plan := roll.plan(x)
		if y, e := bench.Ends(x, plan); e != api.OK || !slices.Equal(y, modelEnds(x, plan)) {
			t.Fatal(x, plan, y, e)
		}
		for board := range x.Boards {
			if y, e := bench.Done(x, plan, board); e != api.OK || y != modelDone(x, plan, board) {
				t.Fatal(x, plan, board, y, e)
			}
		}
		late, e := bench.Late(x, plan)
		if e != api.OK || !slices.Equal(late, modelLate(x, plan)) {
			t.Fatal(x, plan, late, e)
		}
		for _, word := range late {
			seen[word]++
		}
		waits, e := bench.Waits(x, plan)
		if e != api.OK || !slices.Equal(waits, modelWaits(x, plan)) {
			t.Fatal(x, plan, waits, e)
		}
		waited[slices.Max(waits)]++
		chain, e := bench.Chain(x, plan)
		if len(plan) < 6 && !slices.Equal(chain, modelChain(x, plan)) || e != api.OK || !isChain(x, plan, chain) {
			t.Fatal(x, plan, chain, e)
		}
		lengths[len(chain)]++
		for stroke := range plan {
			n, e := bench.Spare(x, plan, stroke)
			if e != api.OK || n != modelSpare(x, plan, stroke) {
				t.Fatal(x, plan, stroke, n, e)
			}
			spared[n]++
		}
	}
	for word := never; word <= surely; word++ {
		if seen[word] < 100 {
			t.Error(word, seen)
		}
	}
	for n := range 6 {
		if waited[n] < 10 || spared[n] < 10 || lengths[n+1] < 10 {
			t.Error(n, waited, spared, lengths)
		}
	}
	if spared[9] < 10 {
		t.Error(spared)
	}
}

// P6.3: of benches with most strokes the first chain is returned too.
func TestChainsOfMostStrokes(t *testing.T) {
	roll := dice(2)
	for range 60 {
		x := roll.bench(3, 6, 5, 1+roll.upTo(4))
		plan := roll.plan(x)
		if y, e := bench.Chain(x, plan); e != api.OK || !slices.Equal(y, modelChain(x, plan)) {
			t.Fatal(x, plan, y, e)
		}
	}
}

// P6.4 and P6.5: what is returned of all plans is what the definitions say.
func TestAllPlansLikeTheModel(t *testing.T) {
	roll := dice(3)
	several, hands := 0, map[int]int{}
	for i := range 400 {
		x := roll.small()
		if i%20 == 0 {
			x = roll.bench(3, 5, 5, 4)
		}
		all, hours := modelBest(x)
		if y, n, e := bench.Best(x); e != api.OK || !slices.Equal(y, all[0]) || n != hours {
			t.Fatal(x, y, n, e)
		}
		if n, e := bench.Count(x); e != api.OK || n != len(all) {
			t.Fatal(x, n, e)
		}
		if len(all) > 1 {
			several++
		}
		for stroke := range x.Strokes {
			var want []int
			for hand := range x.Apprentices + 1 {
				if slices.ContainsFunc(all, func(plan []int) bool { return plan[stroke] == hand }) {
					want = append(want, hand)
				}
			}
			if y, e := bench.Who(x, stroke); e != api.OK || !slices.Equal(y, want) {
				t.Fatal(x, stroke, y, e)
			}
		}
		plan := roll.plan(x)
		for stroke := range plan {
			hand, hours := modelGive(x, plan, stroke)
			if y, n, e := bench.Give(x, plan, stroke); e != api.OK || y != hand || n != hours {
				t.Fatal(x, plan, stroke, y, n, e)
			}
			hands[hand]++
		}
	}
	if several < 100 || hands[0] < 100 || hands[1] < 100 || hands[2] < 10 {
		t.Error(several, hands)
	}
}

// P6.5: more and fewer apprentices, as the definitions have them.
func TestApprenticesLikeTheModel(t *testing.T) {
	roll := dice(4)
	helped, fewest := 0, map[int]int{}
	for range 150 {
		x := roll.bench(3, 1+roll.upTo(3), 4, 3+roll.upTo(10))
		hours := make([]int, 4)
		for apprentices := range 4 {
			_, hours[apprentices] = modelBest(with(x, func(b *api.BenchBook) { b.Apprentices = apprentices }))
		}
		if n, e := bench.More(x); x.Apprentices == 3 {
			if e != api.ErrLong || n != 0 {
				t.Fatal(x, n, e)
			}
		} else if e != api.OK || n != hours[x.Apprentices+1] {
			t.Fatal(x, n, e)
		} else if n < hours[x.Apprentices] {
			helped++
		}
		for limit := range hours[0] + 2 {
			want, e := slices.IndexFunc(hours, func(n int) bool { return n <= limit }), api.OK
			fewest[want]++
			if want < 0 {
				want, e = 0, api.ErrNone
			}
			if n, f := bench.Least(x, limit); f != e || n != want {
				t.Fatal(x, limit, n, f)
			}
		}
	}
	for n := -1; n < 4; n++ {
		if fewest[n] < 10 || helped < 10 {
			t.Error(fewest, helped)
		}
	}
}
