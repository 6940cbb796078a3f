package coat_test

import (
	"math"
	"slices"
	"testing"

	"mahlstick/api"
	"mahlstick/coat"
)

// stillHold checks that the plans of a sheet that surely held still do with a change, and what follows from it.
func stillHold(t *testing.T, s, better api.CoatSheet) {
	t.Helper()
	if err := coat.Check(better); err != api.OK {
		t.Fatal(better, err)
	}
	for _, plan := range modelPlans(s) {
		before, _ := coat.Word(s, plan)
		if after, err := coat.Word(better, plan); err != api.OK || before == surely && after != surely {
			t.Fatal(s, better, plan, before, after, err)
		}
	}
	n, _ := coat.Count(s)
	if m, err := coat.Count(better); err != api.OK || m < n {
		t.Fatal(s, better, n, m, err)
	}
	slack, err := coat.Slack(s)
	if less, err2 := coat.Slack(better); err == api.OK && (err2 != api.OK || less > slack) {
		t.Fatal(s, better, slack, less, err2)
	}
}

// P3.9 and P0.3: with a narrower span, a day of work more, a lesser Need, or a greater Peel, a plan that surely held still does.
func TestWhatHeldStillHolds(t *testing.T) {
	roll := dice(8)
	for range 300 {
		s := roll.large()
		day, number := roll.upTo(len(s.Dry)-1), roll.upTo(len(s.Coats)-1)
		for _, change := range []func(*api.CoatSheet){
			func(s *api.CoatSheet) { s.Dry[day].Low = s.Dry[day].High },
			func(s *api.CoatSheet) { s.Dry[day].High = s.Dry[day].Low },
			func(s *api.CoatSheet) {
				s.Work = slices.Compact(slices.Sorted(slices.Values(append(s.Work, day))))
			},
			func(s *api.CoatSheet) { s.Coats[number].Need = max(1, s.Coats[number].Need-1-roll.upTo(5)) },
			func(s *api.CoatSheet) { s.Coats[number].Peel = min(api.CoatPeel, s.Coats[number].Peel+1+roll.upTo(5)) },
		} {
			stillHold(t, s, with(s, change))
		}
	}
}

// P0.3: the plan that is returned holds in weathers that somebody proposes, or a coat is named up to which none does.
func TestFirstInAnyWeather(t *testing.T) {
	roll := dice(9)
	for range 500 {
		s := roll.large()
		plan, err := coat.First(s)
		if stuck, err2 := coat.Stuck(s); (err == api.OK) != (err2 == api.ErrNone) {
			t.Fatal(s, plan, stuck, err, err2)
		}
		for range 20 {
			var weather []int
			for _, dry := range s.Dry {
				weather = append(weather, dry.Low+roll.upTo(dry.High-dry.Low))
			}
			if err != api.OK {
				continue
			}
			if is, err := coat.Holds(s, plan, weather); err != api.OK || !is {
				t.Fatal(s, plan, weather, err)
			}
		}
	}
}

// all calls everything with some arguments; it is there to see that nothing panics, hangs, or changes them.
func all(s api.CoatSheet, plan, weather []int, number int, text string) {
	coat.Check(s)
	coat.Holds(s, plan, weather)
	coat.Word(s, plan)
	coat.Fails(s, plan)
	coat.Proof(s, plan)
	coat.First(s)
	coat.Count(s)
	coat.Days(s, number)
	coat.Late(s)
	coat.Quick(s)
	coat.Stuck(s)
	coat.Slack(s)
	coat.Mend(s, plan, number)
	coat.Print(s)
	coat.Read(text)
}

// wild returns numbers of which many are far out of range.
func (d *dice) wild() int {
	far := []int{math.MinInt, math.MaxInt, -1, 0, 1, 2, 3, 5, 11, 12, 13, 24, 25, 288, 289, 400, 401, 1 << 40}
	return far[d.upTo(len(far)-1)]
}

// spoil changes some numbers of a sheet into any.
func (d *dice) spoil(s *api.CoatSheet) {
	for range 1 + d.upTo(2) {
		switch d.upTo(6) {
		case 0:
			s.Dry = append(s.Dry, span(d.wild(), d.wild()))
		case 1:
			s.Dry = s.Dry[:d.upTo(len(s.Dry))]
		case 2:
			s.Work = append(s.Work, d.wild())
		case 3:
			s.Work = append([]int{d.wild()}, s.Work...)
		case 4:
			s.Coats = append(s.Coats, api.CoatCoat{Need: d.wild(), Peel: d.wild()})
		case 5:
			s.Coats = s.Coats[:d.upTo(len(s.Coats))]
		case 6:
			*s = api.CoatSheet{}
		}
	}
}

// P0.12: no function panics, whatever its arguments.
func TestAnyArguments(t *testing.T) {
	roll := dice(10)
	all(api.CoatSheet{}, nil, nil, 0, "")
	all(largest(), []int{7, 8, 9, 10, 11}, slices.Repeat([]int{24}, 12), math.MaxInt, "end")
	for range 3000 {
		s := roll.large()
		text, _ := coat.Print(s)
		at := roll.upTo(len(text) - 1)
		if roll.upTo(1) == 0 {
			roll.spoil(&s)
		}
		plan := slices.Clone(s.Work[:min(len(s.Work), len(s.Coats))])
		if len(plan) > 0 && roll.upTo(1) == 0 {
			plan[roll.upTo(len(plan)-1)] = roll.wild()
		}
		var weather []int
		for _, dry := range s.Dry {
			weather = append(weather, []int{dry.Low, dry.High, roll.wild()}[roll.upTo(2)])
		}
		all(s, plan, weather, roll.wild(), text[:at]+string(rune(roll.upTo(300)))+text[at:])
	}
}

// R3: nil and empty lists are the same.
func TestEmptyLists(t *testing.T) {
	none, empty := idle(), with(idle(), func(s *api.CoatSheet) { s.Work = []int{} })
	text, err := coat.Print(empty)
	if want, _ := coat.Print(none); err != api.OK || text != want {
		t.Error(text, want, err)
	}
	if n, err := coat.Count(empty); err != api.OK || n != 0 {
		t.Error(n, err)
	}
	if is, err := coat.Holds(empty, []int{}, []int{}); err != api.ErrArg || is {
		t.Error(is, err)
	}
}

// R4: no argument is changed.
func TestArgumentsStay(t *testing.T) {
	roll := dice(11)
	for range 300 {
		s := roll.large()
		var weather []int
		for _, dry := range s.Dry {
			weather = append(weather, dry.High)
		}
		for _, plan := range append(modelPlans(s), nil) {
			before, plan2, weather2 := clone(s), slices.Clone(plan), slices.Clone(weather)
			all(s, plan, weather, 0, "")
			if !sameSheet(s, before) || !slices.Equal(plan, plan2) || !slices.Equal(weather, weather2) {
				t.Fatal(before, s, plan, plan2, weather, weather2)
			}
		}
	}
}

// R4: what follows a list in its memory is not changed either.
func TestMemoryAfterArgumentsStays(t *testing.T) {
	whole := e()
	s := whole
	days, weather := []int{0, 2, 5, 77, 78}, []int{6, 4, 8, 2, 6, 5, 8, 4, 79}
	for n := range 4 {
		s.Coats = whole.Coats[:n]
		all(s, days[:n], weather[:8], 1, "")
	}
	if !sameSheet(whole, e()) || !slices.Equal(days, []int{0, 2, 5, 77, 78}) || weather[8] != 79 {
		t.Error(whole, days, weather)
	}
}

// R4 and R8: results share no memory with arguments or with each other, and are the same each time.
func TestResultsStay(t *testing.T) {
	s, plan := e(), []int{1, 3, 6}
	for i := range 3 {
		mended, n, err := coat.Mend(s, plan, 0)
		if err != api.OK || n != 0 || !slices.Equal(mended, []int{1, 3, 6}) {
			t.Fatal(i, mended, n, err)
		}
		first, err := coat.First(s)
		if err != api.OK || !slices.Equal(first, []int{0, 2, 4}) {
			t.Fatal(i, first, err)
		}
		days, err := coat.Days(s, 1)
		if err != api.OK || !slices.Equal(days, []int{2, 3, 4}) {
			t.Fatal(i, days, err)
		}
		proof, err := coat.Proof(s, []int{2, 3, 6})
		if err != api.OK || !slices.Equal(proof, []int{6, 4, 8, 2, 6, 5, 8, 4}) {
			t.Fatal(i, proof, err)
		}
		again, err := coat.Read(oneText)
		if err != api.OK || !sameSheet(again, one()) {
			t.Fatal(i, again, err)
		}
		mended[0], first[0], days[0], proof[0], again.Dry[0].Low, again.Work[0], again.Coats[0].Need = 9, 9, 9, 9, 9, 9, 9
	}
	if !sameSheet(s, e()) || !slices.Equal(plan, []int{1, 3, 6}) {
		t.Error(s, plan)
	}
}
