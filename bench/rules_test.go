package bench_test

import (
	"math"
	"slices"
	"testing"

	"mahlstick/api"
	"mahlstick/bench"
)

// P6.1: with hours between the bounds that somebody proposes, each stroke ends between both of its hours.
func TestProposedHours(t *testing.T) {
	roll := dice(5)
	between := 0
	for range 1000 {
		x := roll.any()
		plan := roll.plan(x)
		ends, _ := bench.Ends(x, plan)
		y := with(x, func(b *api.BenchBook) {
			for i, stroke := range b.Strokes {
				hours := stroke.Hours.Low + roll.upTo(stroke.Hours.High-stroke.Hours.Low)
				b.Strokes[i].Hours = span(hours, hours)
			}
		})
		proposed, e := bench.Ends(y, plan)
		_, worked := worked(x, plan, greatestHours(y))
		for stroke := range plan {
			if end := worked[stroke]; e != api.OK || proposed[stroke] != span(end, end) || end < ends[stroke].Low || end > ends[stroke].High {
				t.Fatal(x, y, plan, ends, proposed, e)
			}
			if ends[stroke].Low < worked[stroke] && worked[stroke] < ends[stroke].High {
				between++
			}
		}
	}
	if between < 500 {
		t.Error(between)
	}
}

// takes returns how long a plan takes.
func takes(x api.BenchBook, plan []int) int {
	ends, _ := bench.Ends(x, plan)
	latest := 0
	for _, end := range ends {
		latest = max(latest, end.High)
	}
	return latest
}

// P6.3: with one hour more than Spare, all is done later, and with so many it is not.
func TestOneHourMoreThanSpare(t *testing.T) {
	roll := dice(6)
	later := 0
	for range 1000 {
		// no stroke takes so many hours that it could not take more
		x := roll.bench(3, 1+roll.upTo(5), 3, 3)
		for i := range x.Strokes {
			x.Strokes[i].Hours = roll.span(3)
		}
		plan := roll.plan(x)
		for stroke := range plan {
			spare, e := bench.Spare(x, plan, stroke)
			if e != api.OK {
				t.Fatal(x, plan, stroke, e)
			}
			for hours := x.Strokes[stroke].Hours.High; hours <= api.BenchHours; hours++ {
				y := with(x, func(b *api.BenchBook) { b.Strokes[stroke].Hours.High = hours })
				isLater := takes(y, plan) > takes(x, plan)
				if isLater != (hours > x.Strokes[stroke].Hours.High+spare) {
					t.Fatal(x, plan, stroke, hours, spare)
				}
				if isLater {
					later++
				}
			}
		}
	}
	if later < 1000 {
		t.Error(later)
	}
}

// P6.4: no plan that somebody proposes takes less than the best one, or as long if it comes before; one that is given better is not better than it.
func TestProposedPlans(t *testing.T) {
	roll := dice(7)
	for range 100 {
		x := roll.any()
		best, hours, e := bench.Best(x)
		if e != api.OK || takes(x, best) != hours {
			t.Fatal(x, best, hours, e)
		}
		for range 20 {
			plan := roll.plan(x)
			n := takes(x, plan)
			if n < hours || n == hours && slices.Compare(plan, best) < 0 {
				t.Fatal(x, best, hours, plan, n)
			}
			stroke := roll.upTo(len(plan) - 1)
			if hand, given, e := bench.Give(x, plan, stroke); e != api.OK || given < hours || given > n || x.Strokes[stroke].Round && hand != 0 {
				t.Fatal(x, plan, stroke, hand, given, e)
			}
		}
	}
}

// P0.6: round strokes are given to the master alone.
func TestRoundStrokes(t *testing.T) {
	roll := dice(8)
	others := 0
	for range 60 {
		x := roll.any()
		best, _, _ := bench.Best(x)
		if !areHands(x, best) || bench.Check(x) != api.OK {
			t.Fatal(x, best)
		}
		for stroke := range x.Strokes {
			who, e := bench.Who(x, stroke)
			if e != api.OK || !slices.Contains(who, best[stroke]) || x.Strokes[stroke].Round && !slices.Equal(who, l(0)) {
				t.Fatal(x, stroke, who, e)
			}
			if who[0] > 0 {
				others++
			}
		}
	}
	if others < 10 {
		t.Error(others)
	}
}

// helps checks that a best plan of a bench takes no longer than one of another, and returns whether it takes less.
func helps(t *testing.T, x, y api.BenchBook) bool {
	t.Helper()
	_, before, e := bench.Best(x)
	_, after, f := bench.Best(y)
	if e != api.OK || f != api.OK || after > before {
		t.Fatal(x, y, before, after, e, f)
	}
	return after < before
}

// P6.7: an apprentice more, less hours, a stroke that is not round, and one need less never make a best plan take longer.
func TestHelp(t *testing.T) {
	roll := dice(9)
	helped := [4]int{}
	for range 300 {
		x := roll.small()
		x.Apprentices = min(x.Apprentices, 2)
		if helps(t, x, with(x, func(b *api.BenchBook) { b.Apprentices++ })) {
			helped[0]++
		}
		for i, stroke := range x.Strokes {
			if stroke.Hours.High > 1 && helps(t, x, with(x, func(b *api.BenchBook) {
				b.Strokes[i].Hours.High--
				b.Strokes[i].Hours.Low = min(stroke.Hours.Low, stroke.Hours.High-1)
			})) {
				helped[1]++
			}
			if helps(t, x, with(x, func(b *api.BenchBook) { b.Strokes[i].Round = false })) {
				helped[2]++
			}
			for n := range stroke.Needs {
				if helps(t, x, with(x, func(b *api.BenchBook) { b.Strokes[i].Needs = slices.Delete(b.Strokes[i].Needs, n, n+1) })) {
					helped[3]++
				}
			}
		}
	}
	if slices.Min(helped[:]) < 10 {
		t.Error(helped)
	}
}

// P6.7: apprentices who change their numbers change nothing of when strokes end, nor of what follows from that.
func TestApprenticesWithOtherNumbers(t *testing.T) {
	roll := dice(10)
	other := 0
	for range 500 {
		x := roll.any()
		plan := roll.plan(x)
		var apprentices []int
		for n := range x.Apprentices {
			apprentices = append(apprentices, n+1)
		}
		hands := append(l(0), roll.shuffled(apprentices)...)
		var changed []int
		for _, hand := range plan {
			changed = append(changed, hands[hand])
		}
		if !slices.Equal(plan, changed) {
			other++
		}
		ends, e := bench.Ends(x, plan)
		if same, f := bench.Ends(x, changed); e != api.OK || f != api.OK || !slices.Equal(ends, same) {
			t.Fatal(x, plan, changed, ends, same, e, f)
		}
		waits, _ := bench.Waits(x, plan)
		if same, e := bench.Waits(x, changed); e != api.OK || !slices.Equal(waits, same) {
			t.Fatal(x, plan, changed, waits, same, e)
		}
		chain, _ := bench.Chain(x, plan)
		if same, e := bench.Chain(x, changed); e != api.OK || !slices.Equal(chain, same) {
			t.Fatal(x, plan, changed, chain, same, e)
		}
	}
	if other < 100 {
		t.Error(other)
	}
}

// all calls everything with some arguments; it is there to see that nothing panics, hangs, or changes them.
func all(x api.BenchBook, plan []int, board, stroke, hours int, text string) {
	bench.Check(x)
	bench.Ends(x, plan)
	bench.Done(x, plan, board)
	bench.Late(x, plan)
	bench.Waits(x, plan)
	bench.Chain(x, plan)
	bench.Spare(x, plan, stroke)
	bench.Best(x)
	bench.Count(x)
	bench.Who(x, stroke)
	bench.Give(x, plan, stroke)
	bench.More(x)
	bench.Least(x, hours)
	bench.Print(x)
	bench.Read(text)
}

// wild returns numbers of which many are far out of range.
func (d *dice) wild() int {
	far := []int{math.MinInt, math.MaxInt, -1, 0, 1, 2, 3, 4, 5, 6, 60, 61, 1 << 40}
	return far[d.upTo(len(far)-1)]
}

// wildList returns a list of such numbers.
func (d *dice) wildList() []int {
	var list []int
	for range d.upTo(7) {
		list = append(list, d.wild())
	}
	return list
}

// spoil changes some numbers of a bench into any.
func (d *dice) spoil(b *api.BenchBook) {
	for range 1 + d.upTo(2) {
		number := d.upTo(max(0, len(b.Strokes)-1))
		switch d.upTo(6) {
		case 0:
			b.Apprentices = d.wild()
		case 1:
			b.Boards = d.wildList()
		case 2:
			b.Strokes = b.Strokes[:number]
		case 3:
			b.Strokes = append(b.Strokes, api.BenchStroke{Board: d.wild(), Hours: span(d.wild(), d.wild()), Needs: d.wildList()})
		case 4:
			if number < len(b.Strokes) {
				b.Strokes[number].Hours = span(d.wild(), d.wild())
			}
		case 5:
			if number < len(b.Strokes) {
				b.Strokes[number].Needs = d.wildList()
			}
		case 6:
			if number < len(b.Strokes) {
				b.Strokes[number].Board = d.wild()
			}
		}
	}
}

// P0.12: no function panics, whatever its arguments.
func TestAnyArguments(t *testing.T) {
	roll := dice(11)
	all(api.BenchBook{}, nil, 0, 0, 0, "")
	all(largest(), l(0, 1, 2, 3, 0, 1), math.MaxInt, math.MinInt, math.MaxInt, "end")
	for range 1500 {
		x := roll.small()
		text, _ := bench.Print(x)
		at := roll.upTo(len(text) - 1)
		plan := roll.plan(x)
		if roll.upTo(1) == 0 {
			roll.spoil(&x)
		}
		if roll.upTo(1) == 0 {
			plan = roll.wildList()
		}
		all(x, plan, roll.wild(), roll.wild(), roll.wild(), text[:at]+string(rune(roll.upTo(300)))+text[at:])
	}
}

// R3: nil and empty lists are the same.
func TestEmptyLists(t *testing.T) {
	none, empty := one(), with(one(), func(b *api.BenchBook) { b.Strokes[0].Needs = []int{} })
	text, e := bench.Print(empty)
	if want, _ := bench.Print(none); e != api.OK || text != want {
		t.Error(text, want, e)
	}
	if ends, e := bench.Ends(empty, l(0)); e != api.OK || !slices.Equal(ends, []api.Span{span(1, 1)}) {
		t.Error(ends, e)
	}
	if chain, e := bench.Chain(empty, l(0)); e != api.OK || !slices.Equal(chain, l(0)) {
		t.Error(chain, e)
	}
}

// R4: no argument is changed, nor what follows it in its memory.
func TestArgumentsStay(t *testing.T) {
	roll := dice(12)
	for range 50 {
		whole := roll.bench(3, 6, 4, 3)
		whole.Boards = append(whole.Boards, 77)
		for i := range whole.Strokes {
			whole.Strokes[i].Needs = append(whole.Strokes[i].Needs, 78, 79)
		}
		plan := append(roll.plan(whole), 80, 81)
		before, after := clone(whole), slices.Clone(plan)
		inside := whole
		inside.Boards = whole.Boards[:len(whole.Boards)-1]
		inside.Strokes = slices.Clone(whole.Strokes)
		for i, stroke := range inside.Strokes {
			inside.Strokes[i].Needs = stroke.Needs[:len(stroke.Needs)-2]
		}
		kept := clone(inside)
		for strokes := range 5 {
			x := inside
			x.Strokes = inside.Strokes[:strokes+1]
			if e := bench.Check(x); e != api.OK {
				t.Fatal(x, e)
			}
			all(x, plan[:strokes+1], 0, strokes, 7, "")
		}
		if !sameBench(whole, before) || !sameBench(inside, kept) || !slices.Equal(plan, after) {
			t.Fatal(whole, before, inside, plan)
		}
	}
}

// R4 and R8: results share no memory with arguments or with each other, and are the same each time.
func TestResultsStay(t *testing.T) {
	x, plan := b(), l(0, 1, 0, 1)
	for i := range 3 {
		ends, e := bench.Ends(x, plan)
		if e != api.OK || !slices.Equal(ends, []api.Span{span(2, 2), span(2, 3), span(3, 5), span(3, 6)}) {
			t.Fatal(i, ends, e)
		}
		late, e := bench.Late(x, plan)
		if e != api.OK || !slices.Equal(late, words(never, never)) {
			t.Fatal(i, late, e)
		}
		waits, e := bench.Waits(x, plan)
		if e != api.OK || !slices.Equal(waits, l(0, 0, 1, 0)) {
			t.Fatal(i, waits, e)
		}
		chain, e := bench.Chain(x, plan)
		if e != api.OK || !slices.Equal(chain, l(1, 3)) {
			t.Fatal(i, chain, e)
		}
		best, _, e := bench.Best(x)
		if e != api.OK || !slices.Equal(best, l(0, 1, 0, 1)) {
			t.Fatal(i, best, e)
		}
		who, e := bench.Who(x, 1)
		if e != api.OK || !slices.Equal(who, l(1)) {
			t.Fatal(i, who, e)
		}
		again, e := bench.Read(needyText())
		if e != api.OK || !sameBench(again, needy()) {
			t.Fatal(i, again, e)
		}
		ends[0], late[0], waits[0], chain[0], best[0], who[0] = span(9, 9), 9, 9, 9, 9, 9
		again.Boards[0], again.Strokes[2].Needs[0], again.Strokes[1].Needs[0] = 9, 9, 9
	}
	if !sameBench(x, b()) || !slices.Equal(plan, l(0, 1, 0, 1)) {
		t.Error(x, plan)
	}
}
