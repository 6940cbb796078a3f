package leaf_test

import (
	"math"
	"slices"
	"testing"

	"mahlstick/api"
	"mahlstick/leaf"
)

// P4.8 and P0.4: with a larger leaf, a smaller piece, and one that may be turned, no more leaves are needed, and pieces that fit together still do.
func TestNoMoreLeaves(t *testing.T) {
	roll := dice(8)
	fewer := 0
	for range 300 {
		x := roll.any()
		piece := roll.upTo(len(x.Pieces) - 1)
		for _, change := range []func(*api.LeafJob){
			func(j *api.LeafJob) { j.Wide = min(api.LeafSide, j.Wide+1+roll.upTo(2)) },
			func(j *api.LeafJob) { j.High = min(api.LeafSide, j.High+1+roll.upTo(2)) },
			func(j *api.LeafJob) { j.Pieces[piece].Wide = max(1, j.Pieces[piece].Wide-1) },
			func(j *api.LeafJob) { j.Pieces[piece].High = max(1, j.Pieces[piece].High-1-roll.upTo(2)) },
			func(j *api.LeafJob) { j.Pieces[piece].Turn = true },
		} {
			better := with(x, change)
			_, before, e := leaf.Cut(x)
			_, after, f := leaf.Cut(better)
			if e == api.OK && (f != api.OK || after > before) {
				t.Fatal(x, better, before, after, f)
			}
			if e == api.OK && after < before || e != f {
				fewer++
			}
			for _, pieces := range subsets(len(x.Pieces)) {
				before, _ := leaf.Fits(x, pieces)
				if after, e := leaf.Fits(better, pieces); e != api.OK || before && !after {
					t.Fatal(x, better, pieces, e)
				}
			}
		}
	}
	if fewer < 50 {
		t.Error("changes that matter:", fewer)
	}
}

// P4.8 and P0.4: with a ground that is ready earlier, or for longer, what was a plan still is one.
func TestNoFewerPlans(t *testing.T) {
	roll := dice(9)
	more := 0
	for range 1000 {
		x := roll.any()
		g := roll.upTo(len(x.Grounds) - 1)
		for _, change := range []func(*api.LeafGround){
			func(g *api.LeafGround) { g.Ready.High = max(g.Ready.Low, g.Ready.High-1) },
			func(g *api.LeafGround) { g.Ready = span(g.Ready.Low/2, g.Ready.Low) },
			func(g *api.LeafGround) { g.Last.Low = min(g.Last.High, g.Last.Low+1) },
			func(g *api.LeafGround) {
				g.Last = span(min(api.LeafHours, g.Last.Low+1), min(api.LeafHours, g.Last.High+2))
			},
		} {
			better := with(x, func(j *api.LeafJob) { change(&j.Grounds[g]) })
			before, _ := leaf.Lays(x)
			after, e := leaf.Lays(better)
			if e != api.OK || after < before {
				t.Fatal(x, better, before, after, e)
			}
			if after > before {
				more++
			}
			for piece := range x.Pieces {
				hours, _ := leaf.When(x, piece)
				now, _ := leaf.When(better, piece)
				for _, hour := range hours {
					if !slices.Contains(now, hour) {
						t.Fatal(x, better, piece, hours, now)
					}
				}
			}
			left, _ := leaf.Leave(x)
			if now, e := leaf.Leave(better); e != api.OK || len(now) > len(left) {
				t.Fatal(x, better, left, now, e)
			}
		}
	}
	if more < 100 {
		t.Error("changes that matter:", more)
	}
}

// P4.8: a job whose leaves and pieces are turned has the same cuttings.
func TestTurnedJobs(t *testing.T) {
	roll := dice(10)
	for range 300 {
		x := roll.any()
		turned := with(x, func(j *api.LeafJob) {
			j.Wide, j.High = j.High, j.Wide
			for i, p := range j.Pieces {
				j.Pieces[i].Wide, j.Pieces[i].High = p.High, p.Wide
			}
		})
		a, count, e := leaf.Cut(x)
		if b, same, f := leaf.Cut(turned); e != f || count != same || !slices.Equal(a, b) {
			t.Fatal(x, turned, a, b, e, f)
		}
		ways, _ := leaf.Ways(x)
		if same, e := leaf.Ways(turned); e != api.OK || same != ways {
			t.Fatal(x, turned, ways, same, e)
		}
		for _, pieces := range subsets(len(x.Pieces)) {
			is, _ := leaf.Fits(x, pieces)
			if same, e := leaf.Fits(turned, pieces); e != api.OK || same != is {
				t.Fatal(x, turned, pieces, is, same, e)
			}
			rest, e := leaf.Rest(x, pieces)
			if same, f := leaf.Rest(turned, pieces); e != f || rest.Wide*rest.High != same.Wide*same.High {
				t.Fatal(x, turned, pieces, rest, same, e, f)
			}
		}
	}
}

// P0.4: no piece is cut from two leaves, and pieces are laid while the size is ready; or hours are named that are too few.
func TestGold(t *testing.T) {
	roll := dice(11)
	for range 500 {
		x := roll.any()
		cutting, _, e := leaf.Cut(x)
		if e == api.OK && (len(cutting) != len(x.Pieces) || !isCutting(x, cutting)) {
			t.Fatal(x, cutting)
		}
		plan, e := leaf.Plan(x)
		hours, pieces, f := leaf.Proof(x)
		if (e == api.OK) != (f == api.ErrNone) {
			t.Fatal(x, plan, hours, pieces, e, f)
		}
		for piece, hour := range plan {
			g := x.Grounds[x.Pieces[piece].Ground]
			if hour < g.Ready.High || hour > g.Last.Low || slices.Contains(plan[:piece], hour) {
				t.Fatal(x, plan, piece)
			}
		}
		for _, piece := range pieces {
			g := x.Grounds[x.Pieces[piece].Ground]
			if g.Ready.High < hours.Low || g.Last.Low > hours.High || len(pieces) <= hours.High-hours.Low+1 {
				t.Fatal(x, hours, pieces)
			}
		}
	}
}

// all calls everything with some arguments; it is there to see that nothing panics, hangs, or changes them.
func all(x api.LeafJob, pieces []int, one, other int, text string) {
	leaf.Check(x)
	leaf.Fits(x, pieces)
	leaf.Cut(x)
	leaf.Ways(x)
	leaf.Same(x, one, other)
	leaf.Books(x)
	leaf.Rest(x, pieces)
	leaf.Also(x, pieces)
	leaf.Lays(x)
	leaf.Plan(x)
	leaf.When(x, one)
	leaf.Proof(x)
	leaf.Leave(x)
	leaf.Print(x)
	leaf.Read(text)
}

// wild returns numbers of which many are far out of range.
func (d *dice) wild() int {
	far := []int{math.MinInt, math.MaxInt, -1, 0, 1, 2, 3, 4, 5, 6, 7, 12, 13, 25, 26, 63, 64, 1 << 40}
	return far[d.upTo(len(far)-1)]
}

// spoil changes some numbers of a job into any.
func (d *dice) spoil(x *api.LeafJob) {
	for range 1 + d.upTo(2) {
		switch d.upTo(8) {
		case 0:
			x.Wide = d.wild()
		case 1:
			x.High = d.wild()
		case 2:
			x.Book = d.wild()
		case 3:
			x.Spoilt = d.wild()
		case 4:
			x.Grounds = append(x.Grounds, ground(d.wild(), d.wild(), d.wild(), d.wild()))
		case 5:
			x.Grounds = x.Grounds[:d.upTo(len(x.Grounds))]
		case 6:
			x.Pieces = append(x.Pieces, api.LeafPiece{Wide: d.wild(), High: d.wild(), Ground: d.wild(), Turn: true})
		case 7:
			x.Pieces = x.Pieces[:d.upTo(len(x.Pieces))]
		case 8:
			*x = api.LeafJob{}
		}
	}
}

// P0.12: no function panics, whatever its arguments.
func TestAnyArguments(t *testing.T) {
	roll := dice(12)
	all(api.LeafJob{}, nil, 0, 0, "")
	all(largest(), []int{0, 1, 2, 3, 4}, math.MaxInt, math.MinInt, "end")
	for range 2000 {
		x := roll.job(api.LeafSide, api.LeafPieces, api.LeafHours)
		text, _ := leaf.Print(x)
		at := roll.upTo(len(text) - 1)
		if roll.upTo(1) == 0 {
			roll.spoil(&x)
		}
		var pieces []int
		for piece := range x.Pieces {
			if roll.upTo(1) == 0 {
				pieces = append(pieces, piece)
			}
		}
		if roll.upTo(1) == 0 {
			pieces = append(pieces, roll.wild())
		}
		all(x, pieces, roll.wild(), roll.wild(), text[:at]+string(rune(roll.upTo(300)))+text[at:])
	}
}

// P0.12: no search takes long, with as many pieces and hours as there can be.
func TestLargestSearches(t *testing.T) {
	sizes := []int{3, 2, 2, 3, 4, 1, 1, 4, 2, 2}
	x := turning(cutting(6, 6, sizes...), 0, 1, 2, 3, 4)
	for i, grounds := range [][]api.LeafGround{{ground(0, 0, 12, 12)}, {ground(0, 0, 12, 12), ground(0, 12, 12, 12)}} {
		x.Grounds = grounds
		x.Pieces[3].Ground, x.Pieces[4].Ground = i, i
		for _, pieces := range subsets(5) {
			all(x, pieces, 0, 4, "")
		}
	}
	if w, e := leaf.Lays(x); e != api.OK || w != may {
		t.Error(w, e)
	}
	if a, e := leaf.Leave(x); e != api.OK || !slices.Equal(a, []int{3}) {
		t.Error(a, e)
	}
}

// R3: nil and empty lists are the same.
func TestEmptyLists(t *testing.T) {
	for i, pieces := range [][]int{nil, {}} {
		if is, e := leaf.Fits(j(), pieces); e != api.OK || !is {
			t.Error(i, is, e)
		}
		if s, e := leaf.Rest(j(), pieces); e != api.OK || s != (api.LeafSize{Wide: 4, High: 3}) {
			t.Error(i, s, e)
		}
		if a, e := leaf.Also(j(), pieces); e != api.OK || !slices.Equal(a, []int{0, 1, 2, 3}) {
			t.Error(i, a, e)
		}
	}
	for i, change := range []func(*api.LeafJob){func(j *api.LeafJob) { j.Grounds = []api.LeafGround{} }, func(j *api.LeafJob) { j.Pieces = []api.LeafPiece{} }} {
		if e := leaf.Check(with(j(), change)); e != api.ErrArg {
			t.Error(i, e)
		}
	}
}

// R4: no argument is changed, nor what follows it in its memory.
func TestArgumentsStay(t *testing.T) {
	roll := dice(13)
	for range 200 {
		whole := roll.any()
		x := whole
		list := []int{0, 1, 2, 3, 4, 77, 78}
		before, after := clone(whole), slices.Clone(list)
		for pieces := range len(whole.Pieces) + 1 {
			x.Pieces = whole.Pieces[:pieces]
			for count := range pieces + 1 {
				all(x, list[:count], 0, 1, "")
			}
		}
		if !sameJob(whole, before) || !slices.Equal(list, after) {
			t.Fatal(whole, before, list)
		}
	}
}

// R4 and R8: results share no memory with arguments or with each other, and are the same each time.
func TestResultsStay(t *testing.T) {
	x, y, pieces := j(), k(), []int{0}
	for i := range 3 {
		cutting, count, e := leaf.Cut(x)
		if e != api.OK || count != 2 || !slices.Equal(cutting, []int{0, 1, 0, 1}) {
			t.Fatal(i, cutting, count, e)
		}
		also, e := leaf.Also(x, pieces)
		if e != api.OK || !slices.Equal(also, []int{2, 3}) {
			t.Fatal(i, also, e)
		}
		plan, e := leaf.Plan(x)
		if e != api.OK || !slices.Equal(plan, []int{3, 4, 1, 2}) {
			t.Fatal(i, plan, e)
		}
		when, e := leaf.When(x, 0)
		if e != api.OK || !slices.Equal(when, []int{3, 4}) {
			t.Fatal(i, when, e)
		}
		hours, proof, e := leaf.Proof(y)
		if e != api.OK || hours != span(1, 3) || !slices.Equal(proof, []int{0, 1, 2, 3}) {
			t.Fatal(i, hours, proof, e)
		}
		left, e := leaf.Leave(y)
		if e != api.OK || !slices.Equal(left, []int{0}) {
			t.Fatal(i, left, e)
		}
		again, e := leaf.Read(oneText)
		if e != api.OK || !sameJob(again, one()) {
			t.Fatal(i, again, e)
		}
		cutting[0], also[0], plan[0], when[0], proof[0], left[0], again.Grounds[0].Ready.Low, again.Pieces[0].Wide = 9, 9, 9, 9, 9, 9, 9, 9
	}
	if !sameJob(x, j()) || !sameJob(y, k()) || !slices.Equal(pieces, []int{0}) {
		t.Error(x, y, pieces)
	}
}
