package coat_test

import (
	"math"
	"slices"
	"testing"

	"mahlstick/api"
	"mahlstick/coat"
)

const (
	never  = api.CoatNever
	may    = api.CoatMay
	surely = api.CoatSurely
	early  = api.CoatEarly
	peels  = api.CoatPeels
)

func span(low, high int) api.Span { return api.Span{Low: low, High: high} }

// a returns the sheet a of the chapter.
func a() api.CoatSheet {
	return api.CoatSheet{
		Dry:   []api.Span{span(6, 8), span(4, 6), span(8, 10), span(2, 4), span(6, 6), span(5, 9), span(8, 12), span(4, 4)},
		Work:  []int{0, 2, 3, 5, 6},
		Coats: []api.CoatCoat{{Need: 9, Peel: 20}, {Need: 10, Peel: 20}, {Need: 8, Peel: 30}},
	}
}

// b returns the sheet b of the chapter.
func b() api.CoatSheet { return with(a(), func(s *api.CoatSheet) { s.Coats[1].Peel = 18 }) }

// c returns the sheet c of the chapter.
func c() api.CoatSheet {
	return with(a(), func(s *api.CoatSheet) { s.Coats[0] = api.CoatCoat{Need: 60, Peel: 60} })
}

// e returns the sheet e of the chapter.
func e() api.CoatSheet {
	return with(a(), func(s *api.CoatSheet) { s.Work = []int{0, 1, 2, 3, 4, 5, 6, 7} })
}

// one returns the sheet of the chapter that has a text.
func one() api.CoatSheet {
	return api.CoatSheet{Dry: []api.Span{span(1, 2)}, Work: []int{0}, Coats: []api.CoatCoat{{Need: 1, Peel: 3}}}
}

// idle returns a sheet without days of work.
func idle() api.CoatSheet { return with(a(), func(s *api.CoatSheet) { s.Work = nil }) }

// largest returns a sheet that has as much of everything as can be.
func largest() api.CoatSheet {
	return api.CoatSheet{
		Dry:   slices.Repeat([]api.Span{span(24, 24)}, 12),
		Work:  []int{0, 1, 2, 3, 4, 5, 6, 7, 8, 9, 10, 11},
		Coats: slices.Repeat([]api.CoatCoat{{Need: 288, Peel: 400}}, 5),
	}
}

// badSheets returns sheets that are not as defined, each by one change.
func badSheets() []api.CoatSheet {
	bad := []api.CoatSheet{{}}
	for _, change := range []func(*api.CoatSheet){
		func(s *api.CoatSheet) { s.Dry, s.Work = nil, nil },
		func(s *api.CoatSheet) { s.Dry = slices.Repeat(s.Dry[:1], 13) },
		func(s *api.CoatSheet) { s.Dry = s.Dry[:6] },
		func(s *api.CoatSheet) { s.Dry[0] = span(-1, 8) },
		func(s *api.CoatSheet) { s.Dry[7] = span(4, 25) },
		func(s *api.CoatSheet) { s.Dry[3] = span(5, 4) },
		func(s *api.CoatSheet) { s.Dry[3] = span(math.MinInt, math.MaxInt) },
		func(s *api.CoatSheet) { s.Work[0] = -1 },
		func(s *api.CoatSheet) { s.Work[4] = 8 },
		func(s *api.CoatSheet) { s.Work[4] = math.MaxInt },
		func(s *api.CoatSheet) { s.Work[1] = 0 },
		func(s *api.CoatSheet) { s.Work[3], s.Work[4] = 6, 5 },
		func(s *api.CoatSheet) { s.Work = slices.Repeat([]int{1}, 9) },
		func(s *api.CoatSheet) { s.Coats = nil },
		func(s *api.CoatSheet) { s.Coats = slices.Repeat(s.Coats, 2) },
		func(s *api.CoatSheet) { s.Coats[0].Need = 0 },
		func(s *api.CoatSheet) { s.Coats[0].Need = -1 },
		func(s *api.CoatSheet) { s.Coats[1] = api.CoatCoat{Need: 289, Peel: 400} },
		func(s *api.CoatSheet) { s.Coats[1].Peel = 9 },
		func(s *api.CoatSheet) { s.Coats[2].Peel = 401 },
		func(s *api.CoatSheet) { s.Coats[2].Peel = 7 },
		func(s *api.CoatSheet) { s.Coats[2] = api.CoatCoat{} },
		func(s *api.CoatSheet) { s.Coats[2] = api.CoatCoat{Need: math.MinInt, Peel: math.MaxInt} },
	} {
		bad = append(bad, with(a(), change))
	}
	return bad
}

// P3.1: sheets at all limits are as defined.
func TestCheckLimits(t *testing.T) {
	for i, s := range []api.CoatSheet{
		a(), b(), c(), e(), one(), idle(), largest(),
		with(idle(), func(s *api.CoatSheet) { s.Work = []int{} }),
		with(a(), func(s *api.CoatSheet) { s.Work = []int{7} }),
		with(a(), func(s *api.CoatSheet) { s.Dry[0] = span(0, 0) }),
		with(a(), func(s *api.CoatSheet) { s.Dry[0] = span(0, 24) }),
		with(a(), func(s *api.CoatSheet) { s.Coats = s.Coats[:1] }),
		with(a(), func(s *api.CoatSheet) { s.Coats[2] = api.CoatCoat{Need: 1, Peel: 1} }),
	} {
		if err := coat.Check(s); err != api.OK {
			t.Error(i, err)
		}
	}
}

// refused checks that the functions with a plan return ErrArg, and nothing else.
func refused(t *testing.T, i int, s api.CoatSheet, plan []int) {
	t.Helper()
	if is, err := coat.Holds(s, plan, []int{6, 4, 8, 2, 6, 5, 8, 4}); err != api.ErrArg || is {
		t.Error(i, is, err)
	}
	if w, err := coat.Word(s, plan); err != api.ErrArg || w != 0 {
		t.Error(i, w, err)
	}
	if n, r, err := coat.Fails(s, plan); err != api.ErrArg || n != 0 || r != 0 {
		t.Error(i, n, r, err)
	}
	if w, err := coat.Proof(s, plan); err != api.ErrArg || len(w) > 0 {
		t.Error(i, w, err)
	}
	if p, n, err := coat.Mend(s, plan, 1); err != api.ErrArg || len(p) > 0 || n != 0 {
		t.Error(i, p, n, err)
	}
}

// P3.1 to P3.8: all functions return ErrArg for a sheet that is not as defined.
func TestBadSheets(t *testing.T) {
	for i, s := range badSheets() {
		if err := coat.Check(s); err != api.ErrArg {
			t.Error(i, err)
		}
		refused(t, i, s, []int{0, 2, 5})
		if p, err := coat.First(s); err != api.ErrArg || len(p) > 0 {
			t.Error(i, p, err)
		}
		if l, err := coat.Days(s, 0); err != api.ErrArg || len(l) > 0 {
			t.Error(i, l, err)
		}
		for j, number := range []func(api.CoatSheet) (int, api.Errno){coat.Count, coat.Late, coat.Quick, coat.Stuck, coat.Slack} {
			if n, err := number(s); err != api.ErrArg || n != 0 {
				t.Error(i, j, n, err)
			}
		}
		if text, err := coat.Print(s); err != api.ErrArg || text != "" {
			t.Error(i, text, err)
		}
	}
}

// P3.1, P3.2 and P3.7: plans that are not as defined.
func TestBadPlans(t *testing.T) {
	for i, plan := range [][]int{nil, {}, {0, 2}, {0, 2, 3, 5}, {0, 2, 4}, {1, 2, 5}, {0, 2, 7}, {0, 2, 8}, {-1, 2, 5}, {0, 0, 5}, {0, 5, 5}, {2, 0, 5}, {0, 5, 2}, {5, 2, 0}, {math.MinInt, 0, math.MaxInt}} {
		refused(t, i, a(), plan)
	}
	refused(t, 0, idle(), nil)
	refused(t, 1, idle(), []int{0, 2, 5})
}

// P3.1: weathers that are not as defined.
func TestBadWeathers(t *testing.T) {
	for i, weather := range [][]int{nil, {6, 4, 8, 2, 6, 5, 8}, {6, 4, 8, 2, 6, 5, 8, 4, 4}, {5, 4, 8, 2, 6, 5, 8, 4}, {9, 4, 8, 2, 6, 5, 8, 4}, {6, 4, 8, 2, 6, 5, 8, 3}, {6, 4, 8, 2, 6, 5, 8, 5}, {6, 4, 8, 2, 6, 5, math.MaxInt, 4}, {6, 4, 8, math.MinInt, 6, 5, 8, 4}} {
		if is, err := coat.Holds(a(), []int{0, 2, 5}, weather); err != api.ErrArg || is {
			t.Error(i, is, err)
		}
	}
}

// P3.1: the examples of the chapter, and bounds that are just met.
func TestHolds(t *testing.T) {
	two := api.CoatSheet{Dry: slices.Repeat([]api.Span{span(0, 9)}, 4), Work: []int{1, 2, 3}, Coats: []api.CoatCoat{{Need: 3, Peel: 5}, {Need: 2, Peel: 2}}}
	for i, x := range []struct {
		s             api.CoatSheet
		plan, weather []int
		want          bool
	}{
		{a(), []int{0, 3, 6}, []int{6, 4, 8, 2, 6, 5, 8, 4}, true}, {a(), []int{0, 3, 6}, []int{6, 5, 10, 2, 6, 5, 8, 4}, false},
		{two, []int{1, 3}, []int{9, 1, 2, 2}, true}, {two, []int{1, 3}, []int{9, 1, 1, 2}, false}, {two, []int{1, 3}, []int{0, 3, 2, 9}, true}, {two, []int{1, 3}, []int{0, 3, 3, 9}, false}, {two, []int{1, 3}, []int{9, 1, 2, 1}, false},
		{two, []int{1, 2}, []int{0, 3, 0, 2}, true}, {two, []int{1, 2}, []int{0, 2, 9, 9}, false}, {two, []int{1, 2}, []int{0, 5, 9, 9}, true}, {two, []int{1, 2}, []int{0, 6, 9, 9}, false}, {two, []int{2, 3}, []int{9, 9, 0, 9}, false}, {two, []int{2, 3}, []int{9, 9, 4, 2}, true},
		{one(), []int{0}, []int{1}, true},
	} {
		if is, err := coat.Holds(x.s, x.plan, x.weather); err != api.OK || is != x.want {
			t.Error(i, is, err)
		}
	}
}

// P3.1: the examples of the chapter, and bounds that are just met.
func TestWord(t *testing.T) {
	one := func(low, high, need int) api.CoatSheet {
		return api.CoatSheet{Dry: []api.Span{span(low, high)}, Work: []int{0}, Coats: []api.CoatCoat{{Need: need, Peel: need}}}
	}
	two := func(low, high, need, peel int) api.CoatSheet {
		return api.CoatSheet{Dry: []api.Span{span(low, high), span(1, 1)}, Work: []int{0, 1}, Coats: []api.CoatCoat{{Need: need, Peel: peel}, {Need: 1, Peel: 1}}}
	}
	for i, x := range []struct {
		s    api.CoatSheet
		plan []int
		want api.CoatWord
	}{
		{a(), []int{0, 2, 5}, surely}, {a(), []int{0, 3, 6}, may}, {a(), []int{3, 5, 6}, never},
		{one(3, 5, 3), []int{0}, surely}, {one(3, 5, 4), []int{0}, may}, {one(3, 5, 5), []int{0}, may}, {one(3, 5, 6), []int{0}, never}, {one(3, 5, 2), []int{0}, surely}, {one(3, 5, 1), []int{0}, surely},
		{two(3, 5, 3, 5), []int{0, 1}, surely}, {two(3, 5, 3, 4), []int{0, 1}, may}, {two(3, 5, 4, 5), []int{0, 1}, may}, {two(3, 5, 4, 4), []int{0, 1}, may}, {two(3, 5, 1, 3), []int{0, 1}, may}, {two(3, 5, 1, 2), []int{0, 1}, never}, {two(3, 5, 5, 9), []int{0, 1}, may}, {two(3, 5, 6, 9), []int{0, 1}, never},
	} {
		if w, err := coat.Word(x.s, x.plan); err != api.OK || w != x.want {
			t.Error(i, w, err)
		}
	}
}

// P3.2: the examples of the chapter, and coats that fail after others that do not.
func TestFails(t *testing.T) {
	wide := with(a(), func(s *api.CoatSheet) { s.Dry[0] = span(0, 24) })
	for i, x := range []struct {
		s      api.CoatSheet
		plan   []int
		coat   int
		reason api.CoatReason
		err    api.Errno
	}{
		{a(), []int{0, 3, 6}, 0, peels, api.OK}, {a(), []int{2, 3, 6}, 0, early, api.OK}, {a(), []int{0, 2, 5}, 0, 0, api.ErrNone},
		{wide, []int{0, 2, 5}, 0, early, api.OK}, {b(), []int{0, 2, 5}, 1, peels, api.OK}, {a(), []int{0, 2, 3}, 1, early, api.OK}, {a(), []int{0, 2, 6}, 1, peels, api.OK},
		{with(a(), func(s *api.CoatSheet) { s.Coats[2] = api.CoatCoat{Need: 18, Peel: 18} }), []int{0, 2, 5}, 2, early, api.OK},
		{with(a(), func(s *api.CoatSheet) { s.Coats[2] = api.CoatCoat{Need: 17, Peel: 17} }), []int{0, 2, 5}, 0, 0, api.ErrNone},
		{one(), []int{0}, 0, 0, api.ErrNone}, {c(), []int{0, 2, 5}, 0, early, api.OK},
	} {
		if n, r, err := coat.Fails(x.s, x.plan); err != x.err || n != x.coat || r != x.reason {
			t.Error(i, n, r, err)
		}
	}
}

// P3.2: the examples of the chapter, and weathers in which only a late day decides.
func TestProof(t *testing.T) {
	for i, x := range []struct {
		s    api.CoatSheet
		plan []int
		want []int
		err  api.Errno
	}{
		{a(), []int{0, 3, 6}, []int{6, 5, 10, 2, 6, 5, 8, 4}, api.OK}, {a(), []int{2, 3, 6}, []int{6, 4, 8, 2, 6, 5, 8, 4}, api.OK}, {a(), []int{0, 2, 5}, nil, api.ErrNone},
		{b(), []int{0, 2, 5}, []int{6, 4, 9, 4, 6, 5, 8, 4}, api.OK}, {a(), []int{0, 2, 6}, []int{6, 4, 8, 2, 6, 5, 8, 4}, api.OK},
		{with(a(), func(s *api.CoatSheet) { s.Coats[0].Peel, s.Coats[1].Peel = 13, 19 }), []int{0, 2, 5}, []int{6, 4, 10, 4, 6, 5, 8, 4}, api.OK},
		{with(a(), func(s *api.CoatSheet) { s.Coats[0].Peel, s.Coats[1].Peel = 13, 20 }), []int{0, 2, 5}, []int{8, 6, 8, 2, 6, 5, 8, 4}, api.OK},
		{one(), []int{0}, nil, api.ErrNone},
	} {
		if w, err := coat.Proof(x.s, x.plan); err != x.err || !slices.Equal(w, x.want) {
			t.Error(i, w, err)
		}
	}
}

// P3.1 and P3.2: what is said of a plan, by all weathers that somebody could propose.
func TestPlansInAllWeathers(t *testing.T) {
	roll := dice(1)
	seen := map[api.CoatWord]int{}
	for range 400 {
		s := roll.small()
		weathers := modelWeathers(s)
		for _, plan := range modelPlans(s) {
			holds := 0
			var proof []int
			for _, weather := range weathers {
				want := modelHolds(s, plan, weather)
				if is, err := coat.Holds(s, plan, weather); err != api.OK || is != want {
					t.Fatal(s, plan, weather, is, err)
				}
				if want {
					holds++
				} else if proof == nil {
					proof = weather
				}
			}
			want := map[bool]api.CoatWord{true: may}[holds > 0]
			if holds == len(weathers) {
				want = surely
			} else if holds == 0 {
				want = never
			}
			seen[want]++
			if w, err := coat.Word(s, plan); err != api.OK || w != want || (w == surely) != modelSurely(s, plan) {
				t.Fatal(s, plan, w, want, err)
			}
			proves(t, s, plan, proof)
		}
	}
	if seen[never] < 50 || seen[may] < 50 || seen[surely] < 50 {
		t.Error("too few plans of some kind", seen)
	}
}

// proves checks what proves that a plan may not hold: the first such weather, if there is one, and the coat that fails.
func proves(t *testing.T, s api.CoatSheet, plan, proof []int) {
	t.Helper()
	want := api.OK
	if proof == nil {
		want = api.ErrNone
	}
	if w, err := coat.Proof(s, plan); err != want || !slices.Equal(w, proof) {
		t.Fatal(s, plan, w, proof, err)
	}
	number, reason, found := 0, api.CoatReason(0), api.ErrNone
	for i := len(plan) - 1; i >= 0; i-- {
		least, most := 0, 0
		for day := range s.Dry {
			if day >= plan[i] && (i+1 == len(plan) || day < plan[i+1]) {
				least, most = least+s.Dry[day].Low, most+s.Dry[day].High
			}
		}
		if least < s.Coats[i].Need {
			number, reason, found = i, early, api.OK
		} else if i+1 < len(plan) && most > s.Coats[i].Peel {
			number, reason, found = i, peels, api.OK
		}
	}
	if n, r, err := coat.Fails(s, plan); err != found || n != number || r != reason {
		t.Fatal(s, plan, n, r, err)
	}
}

// P3.2: on sheets of any size the weather that is returned proves what it should, and none with less on its last days does.
func TestProofOfLargeSheets(t *testing.T) {
	roll := dice(2)
	for range 300 {
		s := roll.large()
		for _, plan := range modelPlans(s) {
			w, err := coat.Proof(s, plan)
			if modelSurely(s, plan) {
				if err != api.ErrNone || w != nil {
					t.Fatal(s, plan, w, err)
				}
				continue
			}
			if is, err2 := coat.Holds(s, plan, w); err != api.OK || err2 != api.OK || is {
				t.Fatal(s, plan, w, err, err2)
			}
			for day := range w {
				// a plan may not hold with the same first days, and less on this one
				if w[day] == s.Dry[day].Low {
					continue
				}
				before := with(s, func(s *api.CoatSheet) {
					for i := range day {
						s.Dry[i] = span(w[i], w[i])
					}
					s.Dry[day].High = w[day] - 1
				})
				if !modelSurely(before, plan) {
					t.Fatal(s, plan, w, day)
				}
			}
		}
	}
}

// P3.3: the examples of the chapter, and sheets with one plan or none.
func TestFirstAndCount(t *testing.T) {
	for i, x := range []struct {
		s     api.CoatSheet
		first []int
		err   api.Errno
		count int
	}{
		{a(), []int{0, 2, 5}, api.OK, 1}, {b(), nil, api.ErrNone, 0}, {c(), nil, api.ErrNone, 0}, {e(), []int{0, 2, 4}, api.OK, 5}, {one(), []int{0}, api.OK, 1}, {idle(), nil, api.ErrNone, 0}, {largest(), nil, api.ErrNone, 0},
		{with(largest(), func(s *api.CoatSheet) { s.Coats = slices.Repeat([]api.CoatCoat{{Need: 1, Peel: 400}}, 5) }), []int{0, 1, 2, 3, 4}, api.OK, 792},
		{with(largest(), func(s *api.CoatSheet) { s.Coats = s.Coats[:1] }), []int{0}, api.OK, 1},
		{with(one(), func(s *api.CoatSheet) { s.Coats = append(s.Coats, s.Coats[0]) }), nil, api.ErrNone, 0},
		{with(one(), func(s *api.CoatSheet) { s.Coats[0] = api.CoatCoat{Need: 2, Peel: 3} }), nil, api.ErrNone, 0},
	} {
		if p, err := coat.First(x.s); err != x.err || !slices.Equal(p, x.first) {
			t.Error(i, p, err)
		}
		if n, err := coat.Count(x.s); err != api.OK || n != x.count {
			t.Error(i, n, err)
		}
	}
}

// P3.4: the examples of the chapter, coats that do not exist, and sheets with one plan or none.
func TestDays(t *testing.T) {
	for i, x := range []struct {
		s    api.CoatSheet
		coat int
		want []int
		err  api.Errno
	}{
		{a(), 1, []int{2}, api.OK}, {e(), 1, []int{2, 3, 4}, api.OK}, {b(), 1, nil, api.ErrRule},
		{e(), 0, []int{0, 1, 2}, api.OK}, {e(), 2, []int{4, 5, 6}, api.OK}, {a(), 0, []int{0}, api.OK}, {a(), 2, []int{5}, api.OK}, {idle(), 0, nil, api.ErrRule}, {one(), 0, []int{0}, api.OK},
		{a(), 3, nil, api.ErrArg}, {a(), -1, nil, api.ErrArg}, {b(), 3, nil, api.ErrArg}, {b(), -1, nil, api.ErrArg}, {one(), 1, nil, api.ErrArg}, {a(), math.MaxInt, nil, api.ErrArg}, {a(), math.MinInt, nil, api.ErrArg},
	} {
		if l, err := coat.Days(x.s, x.coat); err != x.err || !slices.Equal(l, x.want) {
			t.Error(i, l, err)
		}
	}
}

// P3.4 to P3.6: the examples of the chapter, and sheets with one plan or none.
func TestNumbers(t *testing.T) {
	type result struct {
		n   int
		err api.Errno
	}
	of := func(n int) result { return result{n, api.OK} }
	none := result{0, api.ErrNone}
	for i, x := range []struct {
		s                         api.CoatSheet
		late, quick, stuck, slack result
	}{
		{a(), of(0), of(5), none, of(0)}, {e(), of(2), of(4), none, of(0)}, {b(), none, none, of(2), of(2)}, {c(), none, none, of(0), none},
		{one(), of(0), of(0), none, of(0)}, {idle(), none, none, of(0), none}, {largest(), none, none, of(1), none},
		// the coat 1 never dries enough, and then the coat 2 does not
		{with(a(), func(s *api.CoatSheet) { s.Coats[1] = api.CoatCoat{Need: 60, Peel: 60} }), none, none, of(1), none},
		{with(a(), func(s *api.CoatSheet) { s.Coats[2] = api.CoatCoat{Need: 18, Peel: 18} }), none, none, of(2), none},
		// more than any Peel that a sheet can have
		{with(largest(), func(s *api.CoatSheet) {
			s.Work = []int{0, 11}
			s.Coats = []api.CoatCoat{{Need: 1, Peel: 1}, {Need: 1, Peel: 1}}
		}), none, none, of(1), of(263)},
	} {
		for j, y := range []struct {
			number func(api.CoatSheet) (int, api.Errno)
			want   result
		}{{coat.Late, x.late}, {coat.Quick, x.quick}, {coat.Stuck, x.stuck}, {coat.Slack, x.slack}} {
			if n, err := y.number(x.s); (result{n, err}) != y.want {
				t.Error(i, j, n, err)
			}
		}
	}
}

// P3.7: the examples of the chapter, days that do not exist, and plans that hold as they are.
func TestMend(t *testing.T) {
	for i, x := range []struct {
		s       api.CoatSheet
		plan    []int
		day     int
		want    []int
		changes int
		err     api.Errno
	}{
		{e(), []int{0, 3, 6}, 1, []int{0, 2, 4}, 2, api.OK}, {e(), []int{1, 3, 7}, 0, []int{1, 3, 6}, 1, api.OK}, {e(), []int{0, 3, 6}, 4, nil, 0, api.ErrNone},
		{e(), []int{0, 2, 5}, 0, []int{0, 2, 5}, 0, api.OK}, {e(), []int{0, 2, 5}, 7, []int{0, 2, 5}, 0, api.OK}, {e(), []int{0, 2, 6}, 3, []int{0, 2, 4}, 1, api.OK}, {e(), []int{0, 2, 6}, 5, []int{0, 2, 5}, 1, api.OK}, {e(), []int{0, 2, 6}, 6, nil, 0, api.ErrNone}, {e(), []int{0, 2, 6}, 7, nil, 0, api.ErrNone},
		{e(), []int{0, 2, 3}, 3, []int{0, 2, 4}, 1, api.OK}, {e(), []int{1, 2, 3}, 0, []int{0, 2, 4}, 2, api.OK}, {e(), []int{1, 2, 3}, 1, []int{1, 3, 6}, 2, api.OK}, {e(), []int{1, 2, 3}, 2, []int{1, 3, 6}, 2, api.OK}, {e(), []int{5, 6, 7}, 0, []int{0, 2, 4}, 3, api.OK}, {e(), []int{5, 6, 7}, 1, []int{1, 3, 6}, 3, api.OK}, {e(), []int{5, 6, 7}, 2, []int{2, 4, 6}, 3, api.OK}, {e(), []int{5, 6, 7}, 3, nil, 0, api.ErrNone},
		{b(), []int{0, 2, 5}, 0, nil, 0, api.ErrNone}, {one(), []int{0}, 0, []int{0}, 0, api.OK},
		{e(), []int{0, 2, 5}, -1, nil, 0, api.ErrArg}, {e(), []int{0, 2, 5}, 8, nil, 0, api.ErrArg}, {b(), []int{0, 2, 5}, 8, nil, 0, api.ErrArg}, {e(), []int{0, 2, 5}, math.MaxInt, nil, 0, api.ErrArg}, {one(), []int{0}, 1, nil, 0, api.ErrArg},
	} {
		if p, n, err := coat.Mend(x.s, x.plan, x.day); err != x.err || n != x.changes || !slices.Equal(p, x.want) {
			t.Error(i, p, n, err)
		}
	}
}

// P3.3 and P3.4: on sheets of any size, by all plans that somebody could propose.
func TestSurePlans(t *testing.T) {
	roll := dice(3)
	some := 0
	for range 1500 {
		s := roll.large()
		sure := modelSure(s)
		if n, err := coat.Count(s); err != api.OK || n != len(sure) {
			t.Fatal(s, n, len(sure), err)
		}
		first, err := coat.First(s)
		if len(sure) == 0 {
			if err != api.ErrNone || first != nil {
				t.Fatal(s, first, err)
			}
			noPlan(t, s)
			continue
		}
		some++
		if err != api.OK || !slices.Equal(first, sure[0]) {
			t.Fatal(s, first, sure[0], err)
		}
		sameDays(t, s, sure)
	}
	if some < 300 || some > 1200 {
		t.Error("sheets with plans that surely hold:", some)
	}
}

// noPlan checks what is returned of a sheet of which no plan surely holds.
func noPlan(t *testing.T, s api.CoatSheet) {
	t.Helper()
	for i := range s.Coats {
		if l, err := coat.Days(s, i); err != api.ErrRule || l != nil {
			t.Fatal(s, i, l, err)
		}
	}
	if n, err := coat.Late(s); err != api.ErrNone || n != 0 {
		t.Fatal(s, n, err)
	}
	if n, err := coat.Quick(s); err != api.ErrNone || n != 0 {
		t.Fatal(s, n, err)
	}
}

// sameDays checks what is returned of the days of plans that surely hold.
func sameDays(t *testing.T, s api.CoatSheet, sure [][]int) {
	t.Helper()
	late, quick := 0, len(s.Dry)
	for i := range s.Coats {
		has := map[int]bool{}
		for _, plan := range sure {
			has[plan[i]] = true
		}
		var want []int
		for day := range s.Dry {
			if has[day] {
				want = append(want, day)
			}
		}
		if l, err := coat.Days(s, i); err != api.OK || !slices.Equal(l, want) {
			t.Fatal(s, i, l, want, err)
		}
	}
	for _, plan := range sure {
		late, quick = max(late, plan[0]), min(quick, plan[len(plan)-1]-plan[0])
	}
	if n, err := coat.Late(s); err != api.OK || n != late {
		t.Fatal(s, n, late, err)
	}
	if n, err := coat.Quick(s); err != api.OK || n != quick {
		t.Fatal(s, n, quick, err)
	}
}

// P3.5: up to each coat before the one that is returned some plan surely holds, and up to each one from it on none does.
func TestStuck(t *testing.T) {
	roll := dice(4)
	seen := map[int]int{}
	for range 1000 {
		s := roll.large()
		stuck, err := coat.Stuck(s)
		if err == api.ErrNone {
			if stuck != 0 {
				t.Fatal(s, stuck)
			}
			stuck = len(s.Coats)
		} else if err != api.OK || stuck >= len(s.Coats) {
			t.Fatal(s, stuck, err)
		}
		seen[stuck]++
		for i := range s.Coats {
			short := with(s, func(s *api.CoatSheet) { s.Coats = s.Coats[:i+1] })
			if has := len(modelSure(short)) > 0; has != (i < stuck) {
				t.Fatal(s, stuck, i)
			}
		}
	}
	for stuck := range api.CoatCoats {
		if seen[stuck] == 0 {
			t.Error("no sheet is stuck at", stuck)
		}
	}
}

// P3.6: with as much more some plan surely holds, and with less none does.
func TestSlack(t *testing.T) {
	roll := dice(5)
	seen := map[bool]int{}
	for range 1000 {
		s := roll.large()
		slack, err := coat.Slack(s)
		if err == api.ErrNone {
			if slack != 0 || len(modelSure(modelSofter(s, 1000))) > 0 {
				t.Fatal(s, slack)
			}
			continue
		}
		if err != api.OK || slack < 0 || len(modelSure(modelSofter(s, slack))) == 0 {
			t.Fatal(s, slack, err)
		}
		if slack > 0 && len(modelSure(modelSofter(s, slack-1))) > 0 {
			t.Fatal(s, slack)
		}
		seen[slack > 0]++
	}
	if seen[true] < 50 || seen[false] < 50 {
		t.Error(seen)
	}
}

// P3.7: on sheets of any size, for all plans and all days.
func TestMendLikeTheModel(t *testing.T) {
	roll := dice(6)
	seen := map[int]int{}
	for range 100 {
		s := roll.sheet(8, 3, 3)
		for _, plan := range modelPlans(s) {
			for day := range s.Dry {
				want, changes, e := modelMend(s, plan, day)
				seen[changes]++
				if p, n, err := coat.Mend(s, plan, day); err != e || n != changes || !slices.Equal(p, want) {
					t.Fatal(s, plan, day, p, n, err, want, changes, e)
				}
			}
		}
	}
	if seen[1] < 50 || seen[2] < 50 || seen[3] < 10 {
		t.Error(seen)
	}
}
