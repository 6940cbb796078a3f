package leaf_test

import (
	"math"
	"slices"
	"testing"

	"mahlstick/api"
	"mahlstick/leaf"
)

const (
	never  = api.LeafNever
	may    = api.LeafMay
	surely = api.LeafSurely
)

// j returns the job j of the chapter.
func j() api.LeafJob {
	return api.LeafJob{
		Wide: 4, High: 3, Book: 2, Spoilt: 1,
		Grounds: []api.LeafGround{ground(1, 2, 4, 6), ground(0, 1, 2, 3)},
		Pieces:  []api.LeafPiece{{Wide: 3, High: 2}, {Wide: 2, High: 2}, {Wide: 1, High: 3, Turn: true, Ground: 1}, {Wide: 4, High: 1, Ground: 1}},
	}
}

// k returns the job k of the chapter.
func k() api.LeafJob { return with(j(), func(j *api.LeafJob) { j.Grounds[0].Last = span(3, 6) }) }

// n returns the job n of the chapter.
func n() api.LeafJob { return cutting(2, 2, 2, 2, 2, 2) }

// one returns the job of the chapter that has a text.
func one() api.LeafJob { return cutting(1, 1, 1, 1) }

// cutting returns a job with leaves of some size, and pieces of others, which may not be turned; all of them at the hour 0.
func cutting(wide, high int, sizes ...int) api.LeafJob {
	x := api.LeafJob{Wide: wide, High: high, Book: 1, Grounds: []api.LeafGround{{}}}
	for i := 0; i+1 < len(sizes); i += 2 {
		x.Pieces = append(x.Pieces, api.LeafPiece{Wide: sizes[i], High: sizes[i+1]})
	}
	return x
}

// turning returns a job in which some pieces may be turned.
func turning(x api.LeafJob, pieces ...int) api.LeafJob {
	return with(x, func(x *api.LeafJob) {
		for _, piece := range pieces {
			x.Pieces[piece].Turn = true
		}
	})
}

// laying returns a job with some grounds, and a small piece on each of so many of them.
func laying(grounds []api.LeafGround, on ...int) api.LeafJob {
	x := api.LeafJob{Wide: 1, High: 1, Book: 1, Grounds: grounds}
	for _, g := range on {
		x.Pieces = append(x.Pieces, api.LeafPiece{Wide: 1, High: 1, Ground: g})
	}
	return x
}

// largest returns a job that has as much of everything as can be.
func largest() api.LeafJob {
	return api.LeafJob{
		Wide: 6, High: 6, Book: 25, Spoilt: 24,
		Grounds: slices.Repeat([]api.LeafGround{ground(12, 12, 12, 12)}, 3),
		Pieces:  slices.Repeat([]api.LeafPiece{{Wide: 6, High: 6, Turn: true, Ground: 2}}, 5),
	}
}

// pinwheel returns a job with pieces that fill a leaf, but not by cuts from edge to edge.
func pinwheel() api.LeafJob { return cutting(3, 3, 2, 1, 1, 2, 2, 1, 1, 2, 1, 1) }

// badJobs returns jobs that are not as defined, each by one change.
func badJobs() []api.LeafJob {
	bad := []api.LeafJob{{}}
	for _, change := range []func(*api.LeafJob){
		func(j *api.LeafJob) { j.Wide = 0 },
		func(j *api.LeafJob) { j.Wide = 7 },
		func(j *api.LeafJob) { j.Wide = math.MinInt },
		func(j *api.LeafJob) { j.High = 0 },
		func(j *api.LeafJob) { j.High = -1 },
		func(j *api.LeafJob) { j.High = 7 },
		func(j *api.LeafJob) { j.Book, j.Spoilt = 0, 0 },
		func(j *api.LeafJob) { j.Book, j.Spoilt = 0, -1 },
		func(j *api.LeafJob) { j.Book = 1 },
		func(j *api.LeafJob) { j.Book = 26 },
		func(j *api.LeafJob) { j.Book, j.Spoilt = math.MinInt, math.MaxInt },
		func(j *api.LeafJob) { j.Spoilt = -1 },
		func(j *api.LeafJob) { j.Spoilt = 2 },
		func(j *api.LeafJob) { j.Grounds = nil },
		func(j *api.LeafJob) { j.Grounds = j.Grounds[:1] },
		func(j *api.LeafJob) { j.Grounds = slices.Repeat(j.Grounds, 2) },
		func(j *api.LeafJob) { j.Grounds[0].Ready.Low = -1 },
		func(j *api.LeafJob) { j.Grounds[0].Ready.Low = 3 },
		func(j *api.LeafJob) { j.Grounds[0].Ready.High = 5 },
		func(j *api.LeafJob) { j.Grounds[0].Ready.High = 0 },
		func(j *api.LeafJob) { j.Grounds[0].Last.Low = 1 },
		func(j *api.LeafJob) { j.Grounds[0].Last.Low = 7 },
		func(j *api.LeafJob) { j.Grounds[0].Last.High = 3 },
		func(j *api.LeafJob) { j.Grounds[0].Last.High = 13 },
		func(j *api.LeafJob) { j.Grounds[1].Last.High = math.MaxInt },
		func(j *api.LeafJob) { j.Grounds[1].Ready.Low = math.MinInt },
		func(j *api.LeafJob) { j.Pieces = nil },
		func(j *api.LeafJob) { j.Pieces = []api.LeafPiece{} },
		func(j *api.LeafJob) { j.Pieces = slices.Repeat(j.Pieces[:2], 3) },
		func(j *api.LeafJob) { j.Pieces[0].Wide = 0 },
		func(j *api.LeafJob) { j.Pieces[3].Wide = 7 },
		func(j *api.LeafJob) { j.Pieces[1].High = 0 },
		func(j *api.LeafJob) { j.Pieces[2].High = 7 },
		func(j *api.LeafJob) { j.Pieces[2].High = math.MaxInt },
		func(j *api.LeafJob) { j.Pieces[0].Ground = -1 },
		func(j *api.LeafJob) { j.Pieces[3].Ground = 2 },
		func(j *api.LeafJob) { j.Pieces[3].Ground = math.MaxInt },
	} {
		bad = append(bad, with(j(), change))
	}
	return bad
}

// P4.1: jobs at all limits are as defined.
func TestCheckLimits(t *testing.T) {
	for i, x := range []api.LeafJob{
		j(), k(), n(), one(), largest(), pinwheel(),
		with(j(), func(j *api.LeafJob) { j.Wide = 1 }),
		with(j(), func(j *api.LeafJob) { j.Book, j.Spoilt = 1, 0 }),
		with(j(), func(j *api.LeafJob) { j.Book, j.Spoilt = 25, 0 }),
		with(j(), func(j *api.LeafJob) { j.Grounds[0] = ground(0, 0, 12, 12) }),
		with(j(), func(j *api.LeafJob) { j.Grounds[1] = ground(0, 12, 12, 12) }),
		with(j(), func(j *api.LeafJob) { j.Grounds[1] = ground(0, 0, 0, 12) }),
		// pieces may be too large for a leaf
		with(one(), func(j *api.LeafJob) { j.Pieces[0].Wide = 6 }),
	} {
		if e := leaf.Check(x); e != api.OK {
			t.Error(i, e)
		}
	}
}

// P4.1 to P4.7: all functions return ErrArg for a job that is not as defined, and nothing else.
func TestBadJobs(t *testing.T) {
	for i, x := range badJobs() {
		if e := leaf.Check(x); e != api.ErrArg {
			t.Error(i, e)
		}
		refused(t, i, x, nil)
		if a, m, e := leaf.Cut(x); e != api.ErrArg || a != nil || m != 0 {
			t.Error(i, a, m, e)
		}
		if m, e := leaf.Ways(x); e != api.ErrArg || m != 0 {
			t.Error(i, m, e)
		}
		if w, e := leaf.Same(x, 0, 1); e != api.ErrArg || w != 0 {
			t.Error(i, w, e)
		}
		if s, e := leaf.Books(x); e != api.ErrArg || s != (api.Span{}) {
			t.Error(i, s, e)
		}
		if w, e := leaf.Lays(x); e != api.ErrArg || w != 0 {
			t.Error(i, w, e)
		}
		if a, e := leaf.Plan(x); e != api.ErrArg || a != nil {
			t.Error(i, a, e)
		}
		if a, e := leaf.When(x, 0); e != api.ErrArg || a != nil {
			t.Error(i, a, e)
		}
		if s, a, e := leaf.Proof(x); e != api.ErrArg || s != (api.Span{}) || a != nil {
			t.Error(i, s, a, e)
		}
		if a, e := leaf.Leave(x); e != api.ErrArg || a != nil {
			t.Error(i, a, e)
		}
		if text, e := leaf.Print(x); e != api.ErrArg || text != "" {
			t.Error(i, text, e)
		}
	}
}

// refused checks that the functions with a list of pieces return ErrArg, and nothing else.
func refused(t *testing.T, i int, x api.LeafJob, pieces []int) {
	t.Helper()
	if is, e := leaf.Fits(x, pieces); e != api.ErrArg || is {
		t.Error(i, is, e)
	}
	if s, e := leaf.Rest(x, pieces); e != api.ErrArg || s != (api.LeafSize{}) {
		t.Error(i, s, e)
	}
	if a, e := leaf.Also(x, pieces); e != api.ErrArg || a != nil {
		t.Error(i, a, e)
	}
}

// P4.1 and P4.4: lists that are not as defined, also if their pieces do not fit together.
func TestBadLists(t *testing.T) {
	for i, pieces := range [][]int{{-1}, {4}, {0, 4}, {0, 1, 4}, {0, 0}, {1, 0}, {0, 2, 2}, {0, 3, 2}, {3, 2, 1, 0}, {0, 1, 2, 3, 4}, {math.MinInt}, {math.MaxInt}, {0, math.MaxInt}, {math.MinInt, 0}} {
		refused(t, i, j(), pieces)
	}
}

// P4.2 and P4.5: numbers of pieces that do not exist, and the same one twice, also if there is no cutting or no plan.
func TestBadPieces(t *testing.T) {
	for i, x := range []api.LeafJob{j(), with(k(), func(j *api.LeafJob) { j.Wide = 1 })} {
		for _, piece := range []int{-1, 4, math.MinInt, math.MaxInt} {
			for _, pair := range [][2]int{{piece, 0}, {0, piece}, {piece, piece}} {
				if w, e := leaf.Same(x, pair[0], pair[1]); e != api.ErrArg || w != 0 {
					t.Error(i, pair, w, e)
				}
			}
			if a, e := leaf.When(x, piece); e != api.ErrArg || a != nil {
				t.Error(i, piece, a, e)
			}
		}
		for piece := range 4 {
			if w, e := leaf.Same(x, piece, piece); e != api.ErrArg || w != 0 {
				t.Error(i, piece, w, e)
			}
		}
	}
}

// P4.1: the examples of the chapter, pieces that are turned, and those that would fit but for the cuts.
func TestFits(t *testing.T) {
	for i, x := range []struct {
		j      api.LeafJob
		pieces []int
		want   bool
	}{
		{j(), []int{0, 2}, true}, {j(), []int{0, 1}, false}, {j(), []int{2, 3}, true}, {j(), nil, true}, {j(), []int{}, true}, {j(), []int{0}, true}, {j(), []int{0, 3}, true}, {j(), []int{0, 2, 3}, false}, {j(), []int{1, 2, 3}, false}, {j(), []int{1, 2}, true}, {j(), []int{1, 3}, true}, {j(), []int{0, 1, 2, 3}, false},
		{n(), []int{0}, true}, {n(), []int{0, 1}, false},
		{cutting(2, 3, 2, 3), []int{0}, true}, {cutting(2, 3, 3, 2), []int{0}, false}, {turning(cutting(2, 3, 3, 2), 0), []int{0}, true}, {turning(cutting(2, 3, 3, 3), 0), []int{0}, false}, {cutting(2, 3, 1, 1), []int{0}, true}, {cutting(2, 3, 2, 4), []int{0}, false}, {cutting(2, 3, 3, 1), []int{0}, false}, {turning(cutting(2, 3, 3, 1), 0), []int{0}, true},
		{pinwheel(), []int{0, 1, 2, 3, 4}, false}, {pinwheel(), []int{0, 1, 2, 3}, false}, {pinwheel(), []int{0, 1, 2}, true}, {pinwheel(), []int{0, 1, 4}, true}, {pinwheel(), []int{0, 1, 2, 4}, true}, {turning(pinwheel(), 1, 3), []int{0, 1, 2, 3, 4}, true}, {turning(pinwheel(), 1), []int{0, 1, 2, 3, 4}, true},
		{cutting(6, 6, 3, 3, 3, 3, 3, 3, 3, 3), []int{0, 1, 2, 3}, true}, {cutting(6, 6, 3, 3, 3, 3, 3, 3, 3, 3, 1, 1), []int{0, 1, 2, 3, 4}, false}, {cutting(6, 5, 2, 5, 4, 2, 4, 3), []int{0, 1, 2}, true}, {cutting(5, 6, 2, 5, 4, 2, 4, 3), []int{0, 1, 2}, false}, {turning(cutting(5, 6, 2, 5, 4, 2, 4, 3), 0, 1, 2), []int{0, 1, 2}, true},
		// three cuts, each in what the one before it has left
		{cutting(4, 4, 4, 1, 1, 3, 3, 1, 1, 2, 2, 2), []int{0, 1, 2, 3, 4}, true}, {largest(), []int{4}, true}, {largest(), []int{3, 4}, false},
	} {
		if is, e := leaf.Fits(x.j, x.pieces); e != api.OK || is != x.want {
			t.Error(i, is, e)
		}
	}
}

// P4.1: pieces of small jobs, by the definition word for word; it shows that the model is right, too.
func TestFitsAsDefined(t *testing.T) {
	roll := dice(1)
	seen := map[bool]int{}
	for range 400 {
		x := roll.job(3, 4, 3)
		for _, pieces := range subsets(len(x.Pieces)) {
			var chosen []api.LeafPiece
			for _, piece := range pieces {
				chosen = append(chosen, x.Pieces[piece])
			}
			want := defined(chosen, x.Wide, x.High)
			if is, e := leaf.Fits(x, pieces); e != api.OK || is != want || want != modelFit(x, pieces) {
				t.Fatal(x, pieces, is, want, e)
			}
			if len(pieces) > 1 {
				seen[want]++
			}
		}
	}
	if seen[true] < 100 || seen[false] < 100 {
		t.Error(seen)
	}
}

// P4.1: pieces of jobs of any size; of pieces that fit together, fewer do.
func TestFitsLikeTheModel(t *testing.T) {
	roll := dice(2)
	seen := map[bool]int{}
	for range 600 {
		x := roll.any()
		for _, pieces := range subsets(len(x.Pieces)) {
			want := modelFit(x, pieces)
			if is, e := leaf.Fits(x, pieces); e != api.OK || is != want {
				t.Fatal(x, pieces, is, want, e)
			}
			if len(pieces) > 2 {
				seen[want]++
			}
			for i := range pieces {
				fewer := slices.Delete(slices.Clone(pieces), i, i+1)
				if is, e := leaf.Fits(x, fewer); e != api.OK || want && !is {
					t.Fatal(x, pieces, fewer, e)
				}
			}
		}
	}
	if seen[true] < 100 || seen[false] < 100 {
		t.Error(seen)
	}
}

// P4.2: the examples of the chapter, and jobs without a cutting.
func TestCut(t *testing.T) {
	for i, x := range []struct {
		j      api.LeafJob
		want   []int
		leaves int
		ways   int
	}{
		{j(), []int{0, 1, 0, 1}, 2, 2}, {k(), []int{0, 1, 0, 1}, 2, 2}, {n(), []int{0, 1}, 2, 1}, {one(), []int{0}, 1, 1}, {largest(), []int{0, 1, 2, 3, 4}, 5, 1}, {pinwheel(), []int{0, 0, 0, 1, 0}, 2, 14},
		{cutting(1, 1, 1, 1, 1, 1, 1, 1), []int{0, 1, 2}, 3, 1}, {cutting(6, 6, 1, 1, 1, 1, 1, 1, 1, 1, 1, 1), []int{0, 0, 0, 0, 0}, 1, 1}, {cutting(2, 1, 1, 1, 1, 1, 1, 1), []int{0, 0, 1}, 2, 3}, {cutting(2, 1, 1, 1, 1, 1, 1, 1, 1, 1), []int{0, 0, 1, 1}, 2, 3},
		// a piece is too large
		{cutting(2, 2, 3, 1), nil, 0, 0}, {turning(cutting(2, 2, 3, 1), 0), nil, 0, 0}, {cutting(2, 3, 1, 1, 3, 2), nil, 0, 0}, {turning(cutting(2, 3, 1, 1, 3, 2), 1), []int{0, 1}, 2, 1}, {cutting(3, 3, 1, 1, 1, 1, 1, 4), nil, 0, 0},
	} {
		want := api.OK
		if x.want == nil {
			want = api.ErrNone
		}
		if a, m, e := leaf.Cut(x.j); e != want || m != x.leaves || !slices.Equal(a, x.want) {
			t.Error(i, a, m, e)
		}
		if m, e := leaf.Ways(x.j); e != api.OK || m != x.ways {
			t.Error(i, m, e)
		}
	}
}

// P4.2: the examples of the chapter, and jobs without a cutting.
func TestSame(t *testing.T) {
	for i, x := range []struct {
		j          api.LeafJob
		one, other int
		want       api.LeafWord
		e          api.Errno
	}{
		{j(), 0, 2, may, api.OK}, {j(), 0, 1, never, api.OK}, {j(), 2, 0, may, api.OK}, {j(), 1, 0, never, api.OK}, {j(), 0, 3, may, api.OK}, {j(), 2, 3, never, api.OK}, {n(), 0, 1, never, api.OK},
		{cutting(2, 2, 1, 2, 1, 1, 1, 1), 0, 2, surely, api.OK}, {cutting(2, 2, 2, 2, 1, 1, 1, 1), 1, 2, surely, api.OK}, {cutting(2, 2, 2, 2, 1, 1, 1, 1), 0, 2, never, api.OK},
		{cutting(2, 2, 3, 1, 1, 1, 1, 1), 1, 2, 0, api.ErrRule}, {cutting(2, 2, 3, 1, 1, 1, 1, 1), 0, 1, 0, api.ErrRule},
	} {
		if w, e := leaf.Same(x.j, x.one, x.other); e != x.e || w != x.want {
			t.Error(i, w, e)
		}
	}
}

// P4.2: on jobs of any size, by all cuttings that somebody could propose.
func TestCutLikeTheModel(t *testing.T) {
	roll := dice(3)
	leaves, words := map[int]int{}, map[api.LeafWord]int{}
	for range 150 {
		x := roll.any()
		all, fewest := modelBest(x)
		leaves[fewest]++
		want, rule, first := api.OK, api.OK, []int(nil)
		if fewest == 0 {
			want, rule = api.ErrNone, api.ErrRule
		} else {
			first = all[0]
		}
		if a, m, e := leaf.Cut(x); e != want || m != fewest || !slices.Equal(a, first) {
			t.Fatal(x, a, m, e, first, fewest)
		}
		if m, e := leaf.Ways(x); e != api.OK || m != len(all) {
			t.Fatal(x, m, e, len(all))
		}
		for one := range x.Pieces {
			for other := range x.Pieces {
				if one == other {
					continue
				}
				word := together(all, one, other)
				words[word]++
				if w, e := leaf.Same(x, one, other); e != rule || w != word {
					t.Fatal(x, one, other, w, e, word)
				}
			}
		}
	}
	if leaves[0] < 10 || leaves[1] < 10 || leaves[2] < 10 || leaves[3] < 5 || words[never] < 20 || words[may] < 20 || words[surely] < 20 {
		t.Error(leaves, words)
	}
}

// together returns whether two pieces have the same leaf in all of some cuttings, in some, or in none; 0 if there is none.
func together(all [][]int, one, other int) api.LeafWord {
	same := 0
	for _, cutting := range all {
		if cutting[one] == cutting[other] {
			same++
		}
	}
	switch {
	case len(all) == 0:
		return 0
	case same == 0:
		return never
	case same < len(all):
		return may
	default:
		return surely
	}
}

// P4.3: the examples of the chapter, books of all sizes, and a job without a cutting.
func TestBooks(t *testing.T) {
	if s, e := leaf.Books(j()); e != api.OK || s != span(1, 2) {
		t.Error(s, e)
	}
	if s, e := leaf.Books(n()); e != api.OK || s != span(2, 2) {
		t.Error(s, e)
	}
	if s, e := leaf.Books(cutting(2, 2, 3, 1)); e != api.ErrNone || s != (api.Span{}) {
		t.Error(s, e)
	}
	for book := 1; book <= 25; book++ {
		for spoilt := range book {
			for count := 1; count <= 5; count++ {
				x := with(largest(), func(j *api.LeafJob) { j.Book, j.Spoilt, j.Pieces = book, spoilt, j.Pieces[:count] })
				low, high := 1, 1
				for low*book < count {
					low++
				}
				for high*(book-spoilt) < count {
					high++
				}
				if s, e := leaf.Books(x); e != api.OK || s != span(low, high) {
					t.Error(book, spoilt, count, s, e)
				}
			}
		}
	}
}

// P4.4: the examples of the chapter, leaves with nothing left, and pieces that do not fit.
func TestRest(t *testing.T) {
	for i, x := range []struct {
		j      api.LeafJob
		pieces []int
		want   api.LeafSize
		e      api.Errno
	}{
		{j(), nil, api.LeafSize{Wide: 4, High: 3}, api.OK}, {j(), []int{0}, api.LeafSize{Wide: 4, High: 1}, api.OK}, {j(), []int{1}, api.LeafSize{Wide: 2, High: 3}, api.OK}, {j(), []int{0, 2}, api.LeafSize{Wide: 3, High: 1}, api.OK},
		{j(), []int{0, 1}, api.LeafSize{}, api.ErrRule}, {n(), []int{0}, api.LeafSize{}, api.ErrNone}, {n(), nil, api.LeafSize{Wide: 2, High: 2}, api.OK}, {n(), []int{0, 1}, api.LeafSize{}, api.ErrRule},
		// of the same area the widest one
		{cutting(6, 6, 4, 4), []int{0}, api.LeafSize{Wide: 6, High: 2}, api.OK}, {cutting(4, 4, 2, 2), []int{0}, api.LeafSize{Wide: 4, High: 2}, api.OK}, {cutting(3, 6, 2, 4), []int{0}, api.LeafSize{Wide: 3, High: 2}, api.OK},
		// the rest may not be turned
		{cutting(2, 6, 2, 1), []int{0}, api.LeafSize{Wide: 2, High: 5}, api.OK}, {turning(cutting(6, 1, 1, 5), 0), []int{0}, api.LeafSize{Wide: 1, High: 1}, api.OK},
		{cutting(6, 6, 6, 6), []int{0}, api.LeafSize{}, api.ErrNone}, {cutting(6, 6, 1, 1), nil, api.LeafSize{Wide: 6, High: 6}, api.OK}, {cutting(6, 6, 1, 1, 1, 1, 1, 1, 1, 1, 1, 1), []int{0, 1, 2, 3, 4}, api.LeafSize{Wide: 6, High: 5}, api.OK}, {cutting(2, 2, 3, 1), []int{0}, api.LeafSize{}, api.ErrRule}, {cutting(2, 2, 3, 1), nil, api.LeafSize{Wide: 2, High: 2}, api.OK},
		{turning(pinwheel(), 1), []int{0, 1, 2, 3, 4}, api.LeafSize{}, api.ErrNone}, {turning(pinwheel(), 1), []int{0, 1, 2, 3}, api.LeafSize{Wide: 1, High: 1}, api.OK},
	} {
		if s, e := leaf.Rest(x.j, x.pieces); e != x.e || s != x.want {
			t.Error(i, s, e)
		}
	}
}

// P4.4: the examples of the chapter, leaves on which nothing more fits, and pieces that do not fit.
func TestAlso(t *testing.T) {
	for i, x := range []struct {
		j      api.LeafJob
		pieces []int
		want   []int
		e      api.Errno
	}{
		{j(), []int{0}, []int{2, 3}, api.OK}, {j(), []int{0, 2}, nil, api.OK}, {j(), nil, []int{0, 1, 2, 3}, api.OK}, {j(), []int{1}, []int{2, 3}, api.OK}, {j(), []int{2}, []int{0, 1, 3}, api.OK}, {j(), []int{3}, []int{0, 1, 2}, api.OK}, {j(), []int{0, 1}, nil, api.ErrRule}, {j(), []int{0, 1, 2, 3}, nil, api.ErrRule},
		{n(), []int{0}, nil, api.OK}, {n(), []int{1}, nil, api.OK}, {n(), nil, []int{0, 1}, api.OK}, {cutting(2, 2, 1, 1, 3, 1, 1, 2), nil, []int{0, 2}, api.OK}, {cutting(2, 2, 1, 1, 3, 1, 1, 2), []int{1}, nil, api.ErrRule}, {cutting(2, 2, 1, 1, 3, 1, 1, 2), []int{2}, []int{0}, api.OK},
		{cutting(6, 6, 1, 1, 1, 1, 1, 1, 1, 1, 1, 1), []int{0, 1, 2, 3, 4}, nil, api.OK},
	} {
		if a, e := leaf.Also(x.j, x.pieces); e != x.e || !slices.Equal(a, x.want) {
			t.Error(i, a, e)
		}
	}
}

// P4.4: on jobs of any size, by all rectangles and pieces that somebody could propose.
func TestRestAndAlsoLikeTheModel(t *testing.T) {
	roll := dice(4)
	seen := map[api.Errno]int{}
	for range 120 {
		x := roll.any()
		for _, pieces := range subsets(len(x.Pieces)) {
			size, want := api.LeafSize{}, api.ErrRule
			var also []int
			wantAlso := api.ErrRule
			if modelFit(x, pieces) {
				size, want = modelRest(x, pieces)
				wantAlso = api.OK
				for _, piece := range everyone(x, pieces...) {
					if modelFit(x, append(slices.Clone(pieces), piece)) {
						also = append(also, piece)
					}
				}
			}
			seen[want]++
			if s, e := leaf.Rest(x, pieces); e != want || s != size {
				t.Fatal(x, pieces, s, e, size, want)
			}
			if a, e := leaf.Also(x, pieces); e != wantAlso || !slices.Equal(a, also) {
				t.Fatal(x, pieces, a, e, also)
			}
		}
	}
	if seen[api.OK] < 100 || seen[api.ErrNone] < 20 || seen[api.ErrRule] < 100 {
		t.Error(seen)
	}
}

// P4.5: the examples of the chapter, and hours at the ends of spans.
func TestLaysAndPlan(t *testing.T) {
	for i, x := range []struct {
		j    api.LeafJob
		word api.LeafWord
		plan []int
	}{
		{j(), surely, []int{3, 4, 1, 2}}, {k(), may, nil}, {n(), never, nil}, {one(), surely, []int{0}}, {largest(), never, nil},
		{laying([]api.LeafGround{ground(0, 2, 3, 12)}, 0, 0), surely, []int{2, 3}}, {laying([]api.LeafGround{ground(0, 3, 3, 12)}, 0, 0), may, nil}, {laying([]api.LeafGround{ground(1, 2, 2, 2)}, 0, 0), may, nil}, {laying([]api.LeafGround{ground(1, 2, 2, 2)}, 0, 0, 0), never, nil}, {laying([]api.LeafGround{ground(2, 2, 2, 3)}, 0, 0), may, nil}, {laying([]api.LeafGround{ground(2, 2, 2, 3)}, 0, 0, 0), never, nil},
		{laying([]api.LeafGround{ground(0, 0, 12, 12)}, 0, 0, 0, 0, 0), surely, []int{0, 1, 2, 3, 4}}, {laying([]api.LeafGround{ground(12, 12, 12, 12), ground(10, 11, 12, 12)}, 1, 0), surely, []int{11, 12}}, {laying([]api.LeafGround{ground(12, 12, 12, 12), ground(10, 11, 12, 12)}, 1, 0, 1), may, nil},
		// the first hours are left to pieces that have no others
		{laying([]api.LeafGround{ground(0, 0, 4, 4), ground(0, 0, 1, 1), ground(0, 0, 0, 0)}, 0, 1, 2), surely, []int{2, 1, 0}}, {laying([]api.LeafGround{ground(0, 0, 4, 4), ground(3, 3, 4, 4), ground(0, 0, 0, 0)}, 0, 0, 1, 1, 2), surely, []int{1, 2, 3, 4, 0}},
	} {
		if w, e := leaf.Lays(x.j); e != api.OK || w != x.word {
			t.Error(i, w, e)
		}
		want := api.OK
		if x.plan == nil {
			want = api.ErrNone
		}
		if a, e := leaf.Plan(x.j); e != want || !slices.Equal(a, x.plan) {
			t.Error(i, a, e)
		}
	}
}

// P4.5: the examples of the chapter, and hours that others need.
func TestWhen(t *testing.T) {
	needed := laying([]api.LeafGround{ground(0, 0, 4, 4), ground(0, 2, 3, 3)}, 0, 1, 1)
	for i, x := range []struct {
		j     api.LeafJob
		piece int
		want  []int
		e     api.Errno
	}{
		{j(), 0, []int{3, 4}, api.OK}, {j(), 2, []int{1, 2}, api.OK}, {k(), 0, nil, api.ErrRule}, {k(), 3, nil, api.ErrRule}, {n(), 0, nil, api.ErrRule}, {one(), 0, []int{0}, api.OK},
		{j(), 1, []int{3, 4}, api.OK}, {j(), 3, []int{1, 2}, api.OK}, {needed, 0, []int{0, 1, 4}, api.OK}, {needed, 1, []int{2, 3}, api.OK}, {needed, 2, []int{2, 3}, api.OK},
		{laying([]api.LeafGround{ground(0, 0, 12, 12)}, 0), 0, []int{0, 1, 2, 3, 4, 5, 6, 7, 8, 9, 10, 11, 12}, api.OK}, {laying([]api.LeafGround{ground(3, 5, 8, 11)}, 0), 0, []int{5, 6, 7, 8}, api.OK},
	} {
		if a, e := leaf.When(x.j, x.piece); e != x.e || !slices.Equal(a, x.want) {
			t.Error(i, a, e)
		}
	}
}

// P4.5: on jobs of any size, by all plans that somebody could propose.
func TestPlansLikeTheModel(t *testing.T) {
	roll := dice(5)
	seen := map[api.LeafWord]int{}
	for range 1500 {
		x := roll.any()
		all := modelPlans(x, everyone(x), true)
		want := never
		if len(all) > 0 {
			want = surely
		} else if len(modelPlans(x, everyone(x), false)) > 0 {
			want = may
		}
		seen[want]++
		if w, e := leaf.Lays(x); e != api.OK || w != want {
			t.Fatal(x, w, want, e)
		}
		plan, e := leaf.Plan(x)
		if len(all) == 0 {
			if e != api.ErrNone || plan != nil {
				t.Fatal(x, plan, e)
			}
		} else if e != api.OK || !slices.Equal(plan, all[0]) {
			t.Fatal(x, plan, all[0], e)
		}
		sameHours(t, x, all, plan)
	}
	if seen[never] < 100 || seen[may] < 100 || seen[surely] < 100 {
		t.Error(seen)
	}
}

// sameHours checks the hours that pieces have in plans of a job; a plan that is returned has one of these for each piece.
func sameHours(t *testing.T, x api.LeafJob, all [][]int, plan []int) {
	t.Helper()
	for piece := range x.Pieces {
		var want []int
		for _, plan := range all {
			want = append(want, plan[piece])
		}
		slices.Sort(want)
		want = slices.Compact(want)
		a, e := leaf.When(x, piece)
		if len(all) == 0 {
			if e != api.ErrRule || a != nil {
				t.Fatal(x, piece, a, e)
			}
			continue
		}
		if e != api.OK || !slices.Equal(a, want) || !slices.Contains(a, plan[piece]) {
			t.Fatal(x, piece, a, want, plan, e)
		}
	}
}

// P4.6: the examples of the chapter, and several proofs of which the shortest one is meant.
func TestProofAndLeave(t *testing.T) {
	crowd := laying([]api.LeafGround{ground(0, 5, 6, 12), ground(0, 8, 8, 12), ground(0, 1, 1, 12)}, 0, 0, 0, 1, 1)
	for i, x := range []struct {
		j      api.LeafJob
		hours  api.Span
		pieces []int
		leave  []int
	}{
		{j(), api.Span{}, nil, nil}, {k(), span(1, 3), []int{0, 1, 2, 3}, []int{0}}, {n(), span(0, 0), []int{0, 1}, []int{0}}, {one(), api.Span{}, nil, nil}, {largest(), span(12, 12), []int{0, 1, 2, 3, 4}, []int{0, 1, 2, 3}},
		// the span of one hour is shorter, though later
		{crowd, span(8, 8), []int{3, 4}, []int{0, 3}}, {with(crowd, func(j *api.LeafJob) { j.Pieces[0].Ground, j.Pieces[1].Ground = 2, 2 }), span(1, 1), []int{0, 1}, []int{0, 3}}, {with(crowd, func(j *api.LeafJob) { j.Pieces[4].Ground = 2 }), span(5, 6), []int{0, 1, 2}, []int{0}},
		{laying([]api.LeafGround{ground(0, 0, 4, 4), ground(0, 0, 0, 0)}, 0, 1, 0, 1), span(0, 0), []int{1, 3}, []int{1}}, {laying([]api.LeafGround{ground(2, 2, 3, 3), ground(3, 3, 4, 4), ground(2, 2, 4, 4)}, 0, 1, 2, 1), span(2, 4), []int{0, 1, 2, 3}, []int{0}},
	} {
		want := api.OK
		if x.pieces == nil {
			want = api.ErrNone
		}
		if s, a, e := leaf.Proof(x.j); e != want || s != x.hours || !slices.Equal(a, x.pieces) {
			t.Error(i, s, a, e)
		}
		if a, e := leaf.Leave(x.j); e != api.OK || !slices.Equal(a, x.leave) {
			t.Error(i, a, e)
		}
	}
}

// P4.6: on jobs of any size, by all spans and lists that somebody could propose; there is a proof just if there is no plan.
func TestProofAndLeaveLikeTheModel(t *testing.T) {
	roll := dice(6)
	seen := map[int]int{}
	for range 1500 {
		x := roll.any()
		hours, pieces, want := modelProof(x)
		if s, a, e := leaf.Proof(x); e != want || s != hours || !slices.Equal(a, pieces) {
			t.Fatal(x, s, a, e, hours, pieces, want)
		}
		if plan := len(modelPlans(x, everyone(x), true)) > 0; plan != (want == api.ErrNone) {
			t.Fatal(x, hours, pieces)
		}
		left := slices.IndexFunc(subsets(len(x.Pieces)), func(left []int) bool {
			return len(modelPlans(x, everyone(x, left...), true)) > 0
		})
		fewest := subsets(len(x.Pieces))[left]
		seen[len(fewest)]++
		if a, e := leaf.Leave(x); e != api.OK || !slices.Equal(a, fewest) {
			t.Fatal(x, a, e, fewest)
		}
	}
	if seen[0] < 100 || seen[1] < 100 || seen[2] < 50 || seen[3] < 10 {
		t.Error(seen)
	}
}
