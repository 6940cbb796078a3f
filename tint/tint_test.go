package tint_test

import (
	"math"
	"slices"
	"testing"

	"mahlstick/api"
	"mahlstick/tint"
)

const (
	never  = api.TintNever
	may    = api.TintMay
	surely = api.TintSurely
)

func l(numbers ...int) []int { return numbers }

func span(low, high int) api.Span { return api.Span{Low: low, High: high} }

// three returns three spans with some ends.
func three(n ...int) [3]api.Span {
	return [3]api.Span{span(n[0], n[1]), span(n[2], n[3]), span(n[4], n[5])}
}

// tin returns a tin whose spans have some ends.
func tin(n ...int) api.TintTin { return api.TintTin{Pigments: three(n...)} }

// a, b, c and d return the sheets of the chapter, and one the one that has a text.
func a() api.TintSheet {
	return api.TintSheet{
		Old: [3]int{60, 40, 20}, Fade: three(1, 2, 1, 1, 0, 0), Years: span(5, 5), Off: 5,
		Tins: []api.TintTin{tin(80, 82, 20, 20, 0, 2), tin(20, 22, 60, 60, 40, 40), tin(50, 50, 10, 12, 30, 30)},
	}
}
func b() api.TintSheet { return with(a(), func(s *api.TintSheet) { s.Tins = s.Tins[1:] }) }
func c() api.TintSheet { return with(a(), func(s *api.TintSheet) { s.Off = 4 }) }
func d() api.TintSheet { return with(a(), func(s *api.TintSheet) { s.Years = span(2, 9) }) }
func one() api.TintSheet {
	return api.TintSheet{Old: [3]int{1, 2, 3}, Off: 1, Tins: []api.TintTin{tin(1, 1, 2, 2, 3, 3)}}
}

// t0 returns the truth t of the chapter.
func t0() api.TintTruth {
	return api.TintTruth{Tins: [][3]int{{80, 20, 0}, {20, 60, 40}, {50, 10, 30}}, Years: 5, Fade: [3]int{2, 1, 0}}
}

// largest returns a sheet that has as much of everything as can be.
func largest() api.TintSheet {
	return api.TintSheet{
		Old: [3]int{99, 99, 99}, Fade: three(9, 9, 9, 9, 9, 9), Years: span(20, 20), Off: 20,
		Tins: slices.Repeat([]api.TintTin{tin(99, 99, 99, 99, 99, 99)}, 4),
	}
}

// widest returns a sheet in which nothing is known.
func widest() api.TintSheet {
	return api.TintSheet{
		Old: [3]int{99, 0, 50}, Fade: three(0, 9, 0, 9, 0, 9), Years: span(0, 20), Off: 1,
		Tins: slices.Repeat([]api.TintTin{tin(0, 99, 0, 99, 0, 99)}, 4),
	}
}

// plain returns a sheet of a board that did not fade, with as much of each pigment, and with one tin.
func plain(old, off, low, high int) api.TintSheet {
	return api.TintSheet{Old: [3]int{old, old, old}, Off: off, Tins: []api.TintTin{tin(low, high, low, high, low, high)}}
}

// grey returns such a sheet with tins that have some amounts of each pigment.
func grey(old, off int, amounts ...int) api.TintSheet {
	s := api.TintSheet{Old: [3]int{old, old, old}, Off: off}
	for _, n := range amounts {
		s.Tins = append(s.Tins, tin(n, n, n, n, n, n))
	}
	return s
}

// pure returns a sheet of which 1 1 1 0 is the first mixture that surely matches, and 0 0 1 3 the one with the fewest tins.
func pure() api.TintSheet {
	return api.TintSheet{
		Old: [3]int{30, 30, 30}, Off: 1,
		Tins: []api.TintTin{tin(90, 90, 0, 0, 0, 0), tin(0, 0, 90, 90, 0, 0), tin(0, 0, 0, 0, 90, 90), tin(40, 40, 40, 40, 10, 10)},
	}
}

// apart returns a sheet in which each pigment can match, but no two after the same years.
func apart() api.TintSheet {
	return api.TintSheet{
		Old: [3]int{60, 60, 60}, Fade: three(2, 2, 2, 2, 2, 2), Years: span(0, 10), Off: 1,
		Tins: []api.TintTin{tin(60, 60, 50, 50, 40, 40)},
	}
}

// badSheets returns sheets that are not as defined, each by one change.
func badSheets() []api.TintSheet {
	bad := []api.TintSheet{{}}
	for pigment := range 3 {
		for _, change := range []func(*api.TintSheet){
			func(s *api.TintSheet) { s.Old[pigment] = -1 },
			func(s *api.TintSheet) { s.Old[pigment] = 100 },
			func(s *api.TintSheet) { s.Old[pigment] = math.MinInt },
			func(s *api.TintSheet) { s.Old[pigment] = math.MaxInt },
			func(s *api.TintSheet) { s.Fade[pigment] = span(-1, 0) },
			func(s *api.TintSheet) { s.Fade[pigment] = span(0, 10) },
			func(s *api.TintSheet) { s.Fade[pigment] = span(2, 1) },
			func(s *api.TintSheet) { s.Fade[pigment] = span(math.MinInt, math.MaxInt) },
			func(s *api.TintSheet) { s.Tins[0].Pigments[pigment] = span(-1, 5) },
			func(s *api.TintSheet) { s.Tins[1].Pigments[pigment] = span(0, 100) },
			func(s *api.TintSheet) { s.Tins[2].Pigments[pigment] = span(8, 7) },
			func(s *api.TintSheet) { s.Tins[2].Pigments[pigment] = span(math.MinInt, math.MaxInt) },
		} {
			bad = append(bad, with(a(), change))
		}
	}
	for _, change := range []func(*api.TintSheet){
		func(s *api.TintSheet) { s.Years = span(-1, 5) },
		func(s *api.TintSheet) { s.Years = span(5, 21) },
		func(s *api.TintSheet) { s.Years = span(5, 4) },
		func(s *api.TintSheet) { s.Years = span(math.MinInt, math.MaxInt) },
		func(s *api.TintSheet) { s.Off = 0 },
		func(s *api.TintSheet) { s.Off = -5 },
		func(s *api.TintSheet) { s.Off = 21 },
		func(s *api.TintSheet) { s.Off = math.MaxInt },
		func(s *api.TintSheet) { s.Tins = nil },
		func(s *api.TintSheet) { s.Tins = []api.TintTin{} },
		func(s *api.TintSheet) { s.Tins = slices.Repeat(s.Tins[:1], 5) },
		func(s *api.TintSheet) { s.Tins = slices.Repeat(s.Tins[:1], 1000) },
	} {
		bad = append(bad, with(a(), change))
	}
	return bad
}

// P7.1: sheets at all limits are as defined.
func TestCheckLimits(t *testing.T) {
	for i, s := range []api.TintSheet{
		a(), b(), c(), d(), one(), largest(), widest(), pure(), apart(), plain(0, 1, 0, 0), plain(99, 20, 0, 99),
		with(a(), func(s *api.TintSheet) { s.Tins = s.Tins[2:] }),
		with(a(), func(s *api.TintSheet) { s.Tins = append(s.Tins, api.TintTin{}) }),
		with(a(), func(s *api.TintSheet) { s.Years = span(0, 0) }),
		with(a(), func(s *api.TintSheet) { s.Fade[1] = span(9, 9) }),
	} {
		if e := tint.Check(s); e != api.OK {
			t.Error(i, e)
		}
	}
}

// refuseMixture checks that the functions of a mixture return ErrArg, and nothing else.
func refuseMixture(t *testing.T, s api.TintSheet, mix []int) {
	t.Helper()
	if y, e := tint.Sums(s, mix); e != api.ErrArg || y != [3]api.Span{} {
		t.Error(s, mix, y, e)
	}
	if w, e := tint.Word(s, mix); e != api.ErrArg || w != 0 {
		t.Error(s, mix, w, e)
	}
	if y, e := tint.Years(s, mix); e != api.ErrArg || y != (api.Span{}) {
		t.Error(s, mix, y, e)
	}
	refuseTruth(t, s, mix, t0())
}

// refuseTruth checks the same of a mixture and a truth.
func refuseTruth(t *testing.T, s api.TintSheet, mix []int, truth api.TintTruth) {
	t.Helper()
	if is, e := tint.True(s, mix, truth); e != api.ErrArg || is {
		t.Error(s, mix, truth, is, e)
	}
}

// P7.1 to P7.6, P7.8: all functions return ErrArg for a sheet that is not as defined, and nothing else.
func TestBadSheets(t *testing.T) {
	for i, s := range badSheets() {
		if e := tint.Check(s); e != api.ErrArg {
			t.Error(i, e)
		}
		refuseMixture(t, s, l(1, 1, 0))
		refuseMixture(t, s, l(1))
		refuseMixture(t, s, nil)
		if y, e := tint.Aim(s); e != api.ErrArg || y != [3]api.Span{} {
			t.Error(i, y, e)
		}
		for j, list := range []func(api.TintSheet) ([]int, api.Errno){tint.First, tint.May, tint.Needs} {
			if y, e := list(s); e != api.ErrArg || y != nil {
				t.Error(i, j, y, e)
			}
		}
		if n, e := tint.Count(s); e != api.ErrArg || n != 0 {
			t.Error(i, n, e)
		}
		if y, n, e := tint.Near(s); e != api.ErrArg || y != nil || n != 0 {
			t.Error(i, y, n, e)
		}
		if y, e := tint.Proof(s); e != api.ErrArg || y != [3]int{} {
			t.Error(i, y, e)
		}
		if text, e := tint.Print(s); e != api.ErrArg || text != "" {
			t.Error(i, text, e)
		}
	}
}

// P7.1 and P7.2: mixtures that are not as defined.
func TestBadMixtures(t *testing.T) {
	for _, mix := range [][]int{nil, {}, {1, 1}, {1, 1, 0, 0}, {0, 0, 0}, {-1, 1, 1}, {1, 1, -1}, {9, 0, 0}, {3, 3, 3}, {8, 0, 1}, {4, -1, 0}, {9, -1, 0}, {math.MaxInt, 1, 0}, {math.MinInt, 1, 0}, {math.MaxInt, math.MinInt, 2}, {math.MaxInt, math.MaxInt, 10}, make([]int, 1000)} {
		refuseMixture(t, a(), mix)
	}
	// each of the most parts, in any tin
	for _, mix := range [][]int{{8, 0, 0}, {0, 8, 0}, {0, 0, 8}, {1, 0, 0}, {0, 0, 1}, {3, 3, 2}, {1, 6, 1}} {
		if _, e := tint.Sums(a(), mix); e != api.OK {
			t.Error(mix, e)
		}
		if w, e := tint.Word(a(), mix); e != api.OK || w != modelWord(a(), mix) {
			t.Error(mix, w, e)
		}
	}
}

// P7.1: truths that are not as defined.
func TestBadTruths(t *testing.T) {
	refuseTruth(t, a(), l(1, 1, 0), api.TintTruth{})
	for _, change := range []func(*api.TintTruth){
		func(t *api.TintTruth) { t.Tins = nil },
		func(t *api.TintTruth) { t.Tins = t.Tins[:2] },
		func(t *api.TintTruth) { t.Tins = append(t.Tins, t.Tins[0]) },
		func(t *api.TintTruth) { t.Tins[0][0] = 79 },
		func(t *api.TintTruth) { t.Tins[0][0] = 83 },
		func(t *api.TintTruth) { t.Tins[0][1] = 19 },
		func(t *api.TintTruth) { t.Tins[0][1] = 21 },
		func(t *api.TintTruth) { t.Tins[0][2] = -1 },
		func(t *api.TintTruth) { t.Tins[2][1] = 13 },
		func(t *api.TintTruth) { t.Tins[2][2] = 31 },
		func(t *api.TintTruth) { t.Tins[1][1] = math.MaxInt },
		func(t *api.TintTruth) { t.Tins[1][1] = math.MinInt },
		func(t *api.TintTruth) { t.Years = 4 },
		func(t *api.TintTruth) { t.Years = 6 },
		func(t *api.TintTruth) { t.Years = math.MinInt },
		func(t *api.TintTruth) { t.Fade[0] = 0 },
		func(t *api.TintTruth) { t.Fade[0] = 3 },
		func(t *api.TintTruth) { t.Fade[1] = 0 },
		func(t *api.TintTruth) { t.Fade[2] = 1 },
		func(t *api.TintTruth) { t.Fade[2] = math.MaxInt },
	} {
		refuseTruth(t, a(), l(1, 1, 0), withTruth(t0(), change))
	}
	refuseTruth(t, b(), l(1, 1), t0())
}

// P7.1: the examples of the chapter, and boards that fade away.
func TestAim(t *testing.T) {
	for i, x := range []struct {
		s    api.TintSheet
		want [3]api.Span
	}{
		{a(), three(50, 55, 35, 35, 20, 20)}, {d(), three(42, 58, 31, 38, 20, 20)}, {b(), three(50, 55, 35, 35, 20, 20)}, {one(), three(1, 1, 2, 2, 3, 3)},
		{largest(), three(0, 0, 0, 0, 0, 0)}, {widest(), three(0, 99, 0, 0, 0, 50)},
		{api.TintSheet{Old: [3]int{10, 6, 5}, Fade: three(1, 3, 2, 3, 3, 9), Years: span(2, 4), Off: 1, Tins: one().Tins}, three(0, 8, 0, 2, 0, 0)},
		{api.TintSheet{Old: [3]int{99, 99, 99}, Fade: three(0, 9, 4, 4, 0, 0), Years: span(3, 20), Off: 1, Tins: one().Tins}, three(0, 99, 19, 87, 99, 99)},
	} {
		if y, e := tint.Aim(x.s); e != api.OK || y != x.want {
			t.Error(i, y, e)
		}
	}
}

// P7.1: the example of the chapter, and mixtures with the fewest and the most parts.
func TestSums(t *testing.T) {
	for i, x := range []struct {
		s    api.TintSheet
		mix  []int
		want [3]api.Span
	}{
		{a(), l(1, 1, 0), three(100, 104, 80, 80, 40, 42)}, {a(), l(3, 2, 0), three(280, 290, 180, 180, 80, 86)}, {a(), l(2, 2, 1), three(250, 258, 170, 172, 110, 114)}, {a(), l(0, 0, 1), three(50, 50, 10, 12, 30, 30)},
		{b(), l(1, 3), three(170, 172, 90, 96, 130, 130)}, {one(), l(8), three(8, 8, 16, 16, 24, 24)}, {largest(), l(2, 2, 2, 2), three(792, 792, 792, 792, 792, 792)}, {widest(), l(0, 0, 0, 8), three(0, 792, 0, 792, 0, 792)},
	} {
		if y, e := tint.Sums(x.s, x.mix); e != api.OK || y != x.want {
			t.Error(i, y, e)
		}
	}
}

// P7.1: the examples of the chapter, and amounts that are just near enough.
func TestTrue(t *testing.T) {
	of := func(x, y, z int) api.TintTruth { return api.TintTruth{Tins: [][3]int{{x, y, z}}} }
	wide := plain(10, 2, 0, 99)
	for i, x := range []struct {
		s    api.TintSheet
		mix  []int
		t    api.TintTruth
		want bool
	}{
		{a(), l(1, 1, 0), t0(), true}, {a(), l(2, 1, 0), t0(), false}, {b(), l(1, 1), withTruth(t0(), func(t *api.TintTruth) { t.Tins = t.Tins[1:] }), false},
		{wide, l(1), of(8, 10, 12), true}, {wide, l(8), of(12, 8, 10), true}, {wide, l(1), of(7, 10, 10), false}, {wide, l(1), of(13, 10, 10), false}, {wide, l(1), of(10, 7, 10), false}, {wide, l(1), of(10, 13, 10), false}, {wide, l(8), of(10, 10, 7), false}, {wide, l(8), of(10, 10, 13), false},
		// the board has 10 less so much, but not less than nothing
		{with(wide, func(s *api.TintSheet) { s.Fade, s.Years = three(1, 1, 2, 2, 3, 9), span(3, 4) }), l(1), api.TintTruth{Tins: [][3]int{{5, 4, 2}}, Years: 3, Fade: [3]int{1, 2, 9}}, true},
		{with(wide, func(s *api.TintSheet) { s.Fade, s.Years = three(1, 1, 2, 2, 3, 9), span(3, 4) }), l(1), api.TintTruth{Tins: [][3]int{{5, 4, 2}}, Years: 4, Fade: [3]int{1, 2, 3}}, true},
		{with(wide, func(s *api.TintSheet) { s.Fade, s.Years = three(1, 1, 2, 2, 3, 9), span(3, 4) }), l(1), api.TintTruth{Tins: [][3]int{{4, 4, 2}}, Years: 3, Fade: [3]int{1, 2, 3}}, false},
		{with(wide, func(s *api.TintSheet) { s.Fade, s.Years = three(1, 1, 2, 2, 3, 9), span(3, 4) }), l(1), api.TintTruth{Tins: [][3]int{{5, 4, 3}}, Years: 3, Fade: [3]int{1, 2, 4}}, false},
		// a sum is 5 more than three times what the board has
		{grey(5, 1, 0, 10), l(1, 1), api.TintTruth{Tins: [][3]int{{0, 0, 0}, {10, 10, 10}}}, true}, {grey(5, 1, 0, 10), l(1, 2), api.TintTruth{Tins: [][3]int{{0, 0, 0}, {10, 10, 10}}}, false}, {grey(5, 2, 0, 10), l(1, 2), api.TintTruth{Tins: [][3]int{{0, 0, 0}, {10, 10, 10}}}, true}, {grey(5, 2, 0, 10), l(2, 1), api.TintTruth{Tins: [][3]int{{0, 0, 0}, {10, 10, 10}}}, true}, {grey(5, 2, 0, 10), l(3, 1), api.TintTruth{Tins: [][3]int{{0, 0, 0}, {10, 10, 10}}}, false},
	} {
		if is, e := tint.True(x.s, x.mix, x.t); e != api.OK || is != x.want {
			t.Error(i, is, e)
		}
	}
}

// P7.2: the examples of the chapter, and amounts that are just near enough.
func TestWord(t *testing.T) {
	in := func(pigment int, amount api.Span) api.TintSheet {
		return with(plain(10, 2, 10, 10), func(s *api.TintSheet) { s.Tins[0].Pigments[pigment] = amount })
	}
	for i, x := range []struct {
		s    api.TintSheet
		mix  []int
		want api.TintWord
	}{
		{a(), l(1, 1, 0), surely}, {a(), l(3, 2, 0), may}, {a(), l(1, 2, 0), never}, {c(), l(2, 2, 1), may}, {c(), l(1, 1, 0), never}, {d(), l(1, 1, 0), may}, {d(), l(0, 0, 1), never},
		{plain(10, 2, 8, 12), l(1), surely}, {plain(10, 2, 7, 12), l(1), may}, {plain(10, 2, 8, 13), l(1), may}, {plain(10, 2, 0, 8), l(1), may}, {plain(10, 2, 0, 7), l(1), never}, {plain(10, 2, 12, 15), l(8), may}, {plain(10, 2, 13, 15), l(8), never}, {plain(10, 2, 8, 12), l(8), surely}, {plain(10, 2, 0, 20), l(1), may},
		{in(0, span(8, 12)), l(1), surely}, {in(0, span(8, 13)), l(1), may}, {in(0, span(13, 13)), l(1), never}, {in(1, span(7, 12)), l(1), may}, {in(1, span(7, 7)), l(1), never}, {in(2, span(7, 13)), l(1), may}, {in(2, span(0, 7)), l(1), never}, {in(2, span(12, 12)), l(1), surely},
		// sums are 8 apart, but there is always one that is near enough
		{plain(7, 1, 0, 99), l(8), may}, {with(grey(10, 1, 0), func(s *api.TintSheet) { s.Tins[0] = tin(8, 12, 8, 12, 8, 12) }), l(8), may},
		{apart(), l(1), never}, {with(apart(), func(s *api.TintSheet) { s.Off = 10 }), l(1), may}, {with(apart(), func(s *api.TintSheet) { s.Off = 9 }), l(1), never}, {with(apart(), func(s *api.TintSheet) { s.Off = 20 }), l(1), surely}, {with(apart(), func(s *api.TintSheet) { s.Off = 19 }), l(1), may},
		{one(), l(1), surely}, {one(), l(8), surely}, {largest(), l(1, 1, 1, 1), never}, {widest(), l(1, 1, 1, 1), may},
	} {
		if w, e := tint.Word(x.s, x.mix); e != api.OK || w != x.want {
			t.Error(i, w, e)
		}
	}
}

// P7.2: the examples of the chapter, and years after which some pigments can match, but not all.
func TestYears(t *testing.T) {
	amounts := func(off int, x ...int) api.TintSheet {
		return with(apart(), func(s *api.TintSheet) { s.Off, s.Tins[0] = off, tin(x...) })
	}
	for i, x := range []struct {
		s    api.TintSheet
		mix  []int
		want api.Span
		e    api.Errno
	}{
		{a(), l(1, 1, 0), span(5, 5), api.OK}, {d(), l(1, 1, 0), span(2, 5), api.OK}, {d(), l(0, 0, 1), span(0, 0), api.ErrNone}, {one(), l(1), span(0, 0), api.OK}, {apart(), l(1), span(0, 0), api.ErrNone},
		{amounts(1, 60, 60, 60, 60, 60, 60), l(1), span(0, 0), api.OK}, {amounts(1, 40, 40, 40, 40, 40, 40), l(8), span(10, 10), api.OK}, {amounts(1, 50, 50, 50, 50, 50, 50), l(1), span(5, 5), api.OK}, {amounts(2, 50, 50, 50, 50, 50, 50), l(1), span(4, 6), api.OK}, {amounts(1, 40, 60, 40, 60, 40, 60), l(1), span(0, 10), api.OK}, {amounts(1, 51, 51, 51, 51, 51, 51), l(1), span(4, 5), api.OK},
		{amounts(1, 0, 99, 46, 54, 48, 60), l(1), span(3, 6), api.OK}, {amounts(1, 0, 99, 46, 54, 53, 60), l(1), span(3, 4), api.OK}, {amounts(1, 0, 99, 46, 50, 53, 60), l(1), span(0, 0), api.ErrNone},
		{amounts(9, 60, 60, 50, 50, 40, 40), l(1), span(0, 0), api.ErrNone}, {amounts(10, 60, 60, 50, 50, 40, 40), l(1), span(5, 5), api.OK}, {amounts(12, 60, 60, 50, 50, 40, 40), l(1), span(4, 6), api.OK},
		// so much must have faded as does after 10 years or more; then 8 to 10, which cannot be after 6 or 7 years, but before and after these
		{api.TintSheet{Old: [3]int{99, 99, 0}, Fade: three(0, 9, 9, 9, 0, 0), Years: span(0, 20), Off: 1, Tins: []api.TintTin{tin(0, 99, 0, 10, 0, 0)}}, l(1), span(10, 20), api.OK},
		{api.TintSheet{Old: [3]int{19, 0, 0}, Fade: three(1, 9, 0, 0, 0, 0), Years: span(1, 9), Off: 1, Tins: []api.TintTin{tin(10, 10, 0, 0, 0, 0)}}, l(1), span(1, 9), api.OK},
		{api.TintSheet{Old: [3]int{19, 0, 0}, Fade: three(1, 9, 0, 0, 0, 0), Years: span(0, 20), Off: 1, Tins: []api.TintTin{tin(10, 10, 0, 0, 0, 0)}}, l(1), span(1, 10), api.OK},
	} {
		if y, e := tint.Years(x.s, x.mix); e != x.e || y != x.want {
			t.Error(i, y, e)
		}
	}
}

// P7.3 to P7.5: the examples of the chapter, and sheets of which all mixtures match, or none.
func TestMixtures(t *testing.T) {
	all := func(tins int) api.TintSheet {
		return grey(50, 1, slices.Repeat(l(50), tins)...)
	}
	for i, x := range []struct {
		s     api.TintSheet
		first []int
		may   []int
		count int
		near  []int
		off   int
		needs []int
	}{
		{a(), l(1, 1, 0), l(1, 1, 0), 9, l(1, 1, 0), 5, l(0, 1)}, {c(), nil, l(2, 2, 1), 0, l(1, 1, 0), 5, nil}, {b(), nil, nil, 0, l(1, 3), 13, nil},
		{one(), l(1), l(1), 8, l(1), 0, l(0)}, {all(1), l(1), l(1), 8, l(1), 0, l(0)}, {all(2), l(0, 1), l(0, 1), 44, l(0, 1), 0, l(0)}, {all(3), l(0, 0, 1), l(0, 0, 1), 164, l(0, 0, 1), 0, l(0)}, {all(4), l(0, 0, 0, 1), l(0, 0, 0, 1), 494, l(0, 0, 0, 1), 0, l(0)},
		{largest(), nil, nil, 0, l(0, 0, 0, 1), 99, nil}, {widest(), nil, l(0, 0, 0, 1), 0, l(0, 0, 0, 1), 99, nil},
		// three tins match with fewer parts than two do
		{pure(), l(1, 1, 1, 0), l(1, 1, 1, 0), 5, l(1, 1, 1, 0), 0, l(2, 3)},
		// an eighth of 99 is a part more than 12, and more than 2 off; that of 96 is 3 off, and that of 97 more
		{grey(10, 3, 0, 99), l(7, 1), l(7, 1), 1, l(7, 1), 3, l(0, 1)}, {grey(10, 2, 0, 99), nil, nil, 0, l(7, 1), 3, nil}, {grey(9, 3, 0, 96), l(7, 1), l(7, 1), 1, l(7, 1), 3, l(0, 1)}, {grey(9, 3, 0, 97), nil, nil, 0, l(7, 1), 4, nil},
		// half of 21 or of 19 is off by half of one, which is 1
		{grey(10, 1, 0, 21), l(1, 1), l(1, 1), 5, l(1, 1), 1, l(0, 1)}, {grey(10, 1, 0, 20), l(1, 1), l(1, 1), 4, l(1, 1), 0, l(0, 1)}, {grey(10, 1, 0, 19), l(1, 1), l(1, 1), 5, l(1, 1), 1, l(0, 1)},
		// a mixture that may match comes before the first one that surely does
		{with(grey(50, 5, 50, 50), func(s *api.TintSheet) { s.Tins[1] = tin(40, 50, 50, 50, 50, 50) }), l(1, 0), l(0, 1), 24, l(1, 0), 0, l(0)},
		// of two tins that match alone, the first one; of two lists of two tins, too
		{grey(50, 1, 0, 50, 50), l(0, 0, 1), l(0, 0, 1), 44, l(0, 0, 1), 0, l(1)}, {grey(50, 1, 0, 99, 20, 80), l(0, 0, 1, 1), l(0, 0, 1, 1), 17, l(0, 0, 1, 1), 0, l(0, 1)},
		// a mixture can be as far off as the most that one can, and further
		{grey(0, 20, 20), l(1), l(1), 8, l(1), 20, l(0)}, {grey(0, 20, 21), nil, nil, 0, l(1), 21, nil}, {grey(99, 20, 79), l(1), l(1), 8, l(1), 20, l(0)}, {grey(99, 20, 0), nil, nil, 0, l(1), 99, nil},
	} {
		wants(t, i, "first", tint.First, x.s, x.first)
		wants(t, i, "may", tint.May, x.s, x.may)
		wants(t, i, "needs", tint.Needs, x.s, x.needs)
		if n, e := tint.Count(x.s); e != api.OK || n != x.count {
			t.Error(i, n, e)
		}
		if mix, n, e := tint.Near(x.s); e != api.OK || n != x.off || !slices.Equal(mix, x.near) {
			t.Error(i, mix, n, e)
		}
	}
}

// wants checks what a function returns of a sheet: a list, or ErrNone if it is nil.
func wants(t *testing.T, i int, name string, of func(api.TintSheet) ([]int, api.Errno), s api.TintSheet, want []int) {
	t.Helper()
	wanted := api.OK
	if want == nil {
		wanted = api.ErrNone
	}
	if y, e := of(s); e != wanted || !slices.Equal(y, want) {
		t.Error(i, name, y, e, want)
	}
}

// P7.6: the examples of the chapter, and tins that are just far enough.
func TestProof(t *testing.T) {
	// along each of these directions tins and the board are as far from each other as can be
	far := func(x, y, z int) api.TintSheet {
		s := grey(0, 1, 0)
		for pigment, n := range l(x, y, z) {
			s.Old[pigment] = 50 + 10*n
			s.Tins[0].Pigments[pigment] = span(50-10*n, 50-10*n)
		}
		return s
	}
	for i, x := range []struct {
		s    api.TintSheet
		want [3]int
		e    api.Errno
	}{
		{a(), [3]int{}, api.ErrNone}, {b(), [3]int{0, 0, -2}, api.OK}, {c(), [3]int{}, api.ErrNone}, {one(), [3]int{}, api.ErrNone}, {widest(), [3]int{}, api.ErrNone},
		{largest(), [3]int{-2, -2, -2}, api.OK}, {far(1, 1, 1), [3]int{-2, 1, 2}, api.OK}, {far(0, 0, 1), [3]int{-2, -2, 1}, api.OK},
		{plain(10, 2, 12, 12), [3]int{}, api.ErrNone}, {plain(10, 2, 13, 13), [3]int{-2, -2, -2}, api.OK}, {plain(10, 2, 0, 8), [3]int{}, api.ErrNone}, {plain(10, 2, 0, 7), [3]int{0, 0, 1}, api.OK}, {plain(10, 2, 7, 7), [3]int{0, 0, 1}, api.OK}, {plain(10, 2, 13, 99), [3]int{-2, -2, -2}, api.OK}, {plain(10, 2, 12, 99), [3]int{}, api.ErrNone},
		{grey(10, 2, 13, 7), [3]int{}, api.ErrNone}, {grey(10, 2, 13, 99, 13, 50), [3]int{-2, -2, -2}, api.OK}, {grey(10, 2, 13, 12), [3]int{}, api.ErrNone}, {grey(10, 2, 12, 13), [3]int{}, api.ErrNone},
	} {
		if y, e := tint.Proof(x.s); e != x.e || y != x.want {
			t.Error(i, y, e)
		}
	}
}

// P7.1 and P7.2: what is said of a mixture, by all truths that somebody could propose.
func TestMixturesInAllTruths(t *testing.T) {
	roll := dice(1)
	seen := map[api.TintWord]int{}
	for range 250 {
		s := roll.small()
		truths := modelTruths(s)
		mixtures := modelMixtures(len(s.Tins))
		for range 12 {
			mix := mixtures[roll.upTo(len(mixtures)-1)]
			matches := 0
			var years []int
			for i, truth := range truths {
				want := modelTrue(s, mix, truth)
				if want {
					matches++
					years = append(years, truth.Years)
				}
				// calls for each of many truths take long
				if i%(1+len(truths)/50) > 0 {
					continue
				}
				if is, e := tint.True(s, mix, truth); e != api.OK || is != want {
					t.Fatal(s, mix, truth, is, e)
				}
			}
			word := may
			if matches == 0 {
				word = never
			} else if matches == len(truths) {
				word = surely
			}
			seen[word]++
			if w, e := tint.Word(s, mix); e != api.OK || w != word || w != modelWord(s, mix) {
				t.Fatal(s, mix, w, word, e)
			}
			sameYears(t, s, mix, years)
		}
	}
	if seen[never] < 300 || seen[may] < 300 || seen[surely] < 300 {
		t.Error(seen)
	}
}

// sameYears checks what Years returns by all years after which a mixture can match.
func sameYears(t *testing.T, s api.TintSheet, mix, years []int) {
	t.Helper()
	y, e := tint.Years(s, mix)
	if len(years) == 0 {
		if e != api.ErrNone || y != (api.Span{}) {
			t.Fatal(s, mix, y, e)
		}
		return
	}
	if e != api.OK || y != span(slices.Min(years), slices.Max(years)) {
		t.Fatal(s, mix, y, years, e)
	}
}

// P7.1: on sheets of any size, what a board and parts have lies between the bounds, and some truth has each of these.
func TestBounds(t *testing.T) {
	roll := dice(2)
	for range 2000 {
		s := roll.any()
		mix := roll.mixture(len(s.Tins))
		aim, e := tint.Aim(s)
		if e != api.OK || aim != modelAim(s) {
			t.Fatal(s, aim, e)
		}
		sums, e := tint.Sums(s, mix)
		if e != api.OK {
			t.Fatal(s, mix, e)
		}
		for pigment, sum := range sums {
			if can := modelSums(s, mix, pigment); sum != span(can[0], can[len(can)-1]) {
				t.Fatal(s, mix, pigment, sum, can)
			}
		}
		truth := roll.truth(s)
		if is, e := tint.True(s, mix, truth); e != api.OK || is != modelTrue(s, mix, truth) {
			t.Fatal(s, mix, truth, is, e)
		}
		for pigment := range 3 {
			has, sum := modelBoard(s.Old[pigment], truth.Years, truth.Fade[pigment]), modelSum(mix, truth, pigment)
			if has < aim[pigment].Low || has > aim[pigment].High || sum < sums[pigment].Low || sum > sums[pigment].High {
				t.Fatal(s, mix, truth, pigment, aim, sums, has, sum)
			}
		}
	}
}

// P7.2: on sheets of any size, by all sums that can be.
func TestWordAndYearsLikeTheModel(t *testing.T) {
	roll := dice(3)
	seen, gaps := map[api.TintWord]int{}, 0
	for i := range 1500 {
		s := roll.any()
		switch i % 10 {
		case 0:
			s = roll.sheet(1+roll.upTo(1), api.TintMost, api.TintYears, api.TintFade, 0)
		case 1:
			s = roll.faded()
		}
		mix := roll.mixture(len(s.Tins))
		word := modelWord(s, mix)
		seen[word]++
		if w, e := tint.Word(s, mix); e != api.OK || w != word {
			t.Fatal(s, mix, w, word, e)
		}
		years := modelYears(s, mix)
		sameYears(t, s, mix, years)
		if len(years) > 0 && len(years) <= years[len(years)-1]-years[0] {
			gaps++
		}
		truth := roll.truth(s)
		is, e := tint.True(s, mix, truth)
		if e != api.OK || word == surely && !is || word == never && is || is && !slices.Contains(years, truth.Years) {
			t.Fatal(s, mix, truth, word, years, is, e)
		}
	}
	if seen[never] < 100 || seen[may] < 100 || seen[surely] < 100 || gaps < 50 {
		t.Error(seen, gaps)
	}
}

// P7.3 to P7.5: on sheets of any size, by all mixtures that somebody could propose.
func TestMixturesLikeTheModel(t *testing.T) {
	roll := dice(4)
	some, none, later, fewer := 0, 0, 0, 0
	for range 600 {
		s := roll.any()
		sure := modelSure(s)
		if n, e := tint.Count(s); e != api.OK || n != len(sure) {
			t.Fatal(s, n, len(sure), e)
		}
		nearLikeTheModel(t, s)
		first, e := tint.First(s)
		needs, f := tint.Needs(s)
		if len(sure) == 0 {
			none++
			if e != api.ErrNone || f != api.ErrNone || first != nil || needs != nil {
				t.Fatal(s, first, needs, e, f)
			}
			continue
		}
		some++
		if e != api.OK || !slices.Equal(first, sure[0]) {
			t.Fatal(s, first, sure[0], e)
		}
		if want := modelNeeds(len(s.Tins), sure); f != api.OK || !slices.Equal(needs, want) {
			t.Fatal(s, needs, want, f)
		}
		if partsOf(first) > 1 {
			later++
		}
		if len(needs) > 1 {
			fewer++
		}
	}
	if some < 100 || none < 100 || later < 50 || fewer < 50 {
		t.Error(some, none, later, fewer)
	}
}

// nearLikeTheModel checks that the mixture that is returned is the first one that can be the least far off.
func nearLikeTheModel(t *testing.T, s api.TintSheet) {
	t.Helper()
	near, off, e := tint.Near(s)
	if e != api.OK || off != modelFarOff(s, near) {
		t.Fatal(s, near, off, e)
	}
	before := true
	for _, mix := range modelMixtures(len(s.Tins)) {
		before = before && !slices.Equal(mix, near)
		if far := modelFarOff(s, mix); far < off || before && far == off {
			t.Fatal(s, near, off, mix, far)
		}
	}
	// it is what Off must be so that the mixture surely matches
	for more := max(1, off-1); more <= min(off+1, api.TintOff); more++ {
		other := with(s, func(s *api.TintSheet) { s.Off = more })
		if w, e := tint.Word(other, near); e != api.OK || (w == surely) != (more >= off) {
			t.Fatal(s, near, off, more, w, e)
		}
	}
}

// P7.3: the first one that may match comes first of all of which Word says that it can.
func TestMayLikeTheModel(t *testing.T) {
	roll := dice(5)
	seen := map[api.TintWord]int{}
	for range 200 {
		s := roll.sheet(1+roll.upTo(api.TintTins-1), roll.upTo(3), roll.upTo(3), roll.upTo(2), 2)
		var want []int
		for _, mix := range modelMixtures(len(s.Tins)) {
			if word := modelWord(s, mix); word != never {
				want = mix
				seen[word]++
				break
			}
		}
		if want == nil {
			seen[never]++
		}
		wants(t, 0, "may", tint.May, s, want)
	}
	if seen[never] < 20 || seen[may] < 20 || seen[surely] < 20 {
		t.Error(seen)
	}
}

// P7.6: on sheets of any size, by all directions; with one that is returned no mixture matches.
func TestProofLikeTheModel(t *testing.T) {
	roll := dice(6)
	seen := map[[3]int]int{}
	for range 3000 {
		s := roll.sheet(1+roll.upTo(api.TintTins-1), roll.upTo(8), roll.upTo(4), roll.upTo(2), roll.upTo(2))
		want, found := modelProof(s)
		y, e := tint.Proof(s)
		if y != want || (e == api.OK) != found || !found && e != api.ErrNone {
			t.Fatal(s, y, want, e)
		}
		seen[y]++
		if !found {
			continue
		}
		if mix, e := tint.May(s); e != api.ErrNone {
			t.Fatal(s, y, mix, e)
		}
		mix, truth := roll.mixture(len(s.Tins)), roll.truth(s)
		if is, e := tint.True(s, mix, truth); e != api.OK || is {
			t.Fatal(s, y, mix, truth, e)
		}
	}
	if seen[[3]int{}] < 500 || len(seen) < 40 {
		t.Error(seen[[3]int{}], len(seen))
	}
}
