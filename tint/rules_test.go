package tint_test

import (
	"math"
	"slices"
	"testing"

	"mahlstick/api"
	"mahlstick/tint"
)

// together returns the parts of two mixtures.
func together(one, other []int) []int {
	both := slices.Clone(one)
	for tin, parts := range other {
		both[tin] += parts
	}
	return both
}

// P7.7: two mixtures that surely match, or match in a truth, do so together, as far as they are not too many parts.
func TestTwoMixtures(t *testing.T) {
	roll := dice(7)
	inAll, inOne := 0, 0
	for range 600 {
		s := roll.any()
		truth := roll.truth(s)
		var sure, matching [][]int
		for range 40 {
			mix := roll.mixture(len(s.Tins))
			if w, _ := tint.Word(s, mix); w == surely {
				sure = append(sure, mix)
			}
			if is, _ := tint.True(s, mix, truth); is {
				matching = append(matching, mix)
			}
		}
		for _, one := range matching {
			for _, other := range matching {
				both := together(one, other)
				if is, e := tint.True(s, both, truth); partsOf(both) <= api.TintParts && (e != api.OK || !is) {
					t.Fatal(s, truth, one, other, e)
				}
				inOne++
			}
		}
		for _, one := range sure {
			for _, other := range sure {
				both := together(one, other)
				if w, e := tint.Word(s, both); partsOf(both) <= api.TintParts && (e != api.OK || w != surely) {
					t.Fatal(s, one, other, w, e)
				}
				inAll++
			}
		}
	}
	if inAll < 1000 || inOne < 1000 {
		t.Error(inAll, inOne)
	}
}

// narrower returns a span within one.
func (d *dice) narrower(x api.Span) api.Span {
	low := d.within(x)
	return span(low, d.within(span(low, x.High)))
}

// P7.9: with narrower spans, a greater Off, or a tin more, all mixtures that surely matched do, and no fewer do.
func TestWhatMatchedStillMatches(t *testing.T) {
	roll := dice(8)
	more := 0
	for range 400 {
		s := roll.any()
		pigment, number := roll.upTo(2), roll.upTo(len(s.Tins)-1)
		better := []api.TintSheet{
			with(s, func(s *api.TintSheet) { s.Years = roll.narrower(s.Years) }),
			with(s, func(s *api.TintSheet) { s.Fade[pigment] = roll.narrower(s.Fade[pigment]) }),
			with(s, func(s *api.TintSheet) {
				s.Tins[number].Pigments[pigment] = roll.narrower(s.Tins[number].Pigments[pigment])
			}),
			with(s, func(s *api.TintSheet) { s.Off = min(api.TintOff, s.Off+1+roll.upTo(3)) }),
		}
		if len(s.Tins) < api.TintTins {
			better = append(better, with(s, func(s *api.TintSheet) { s.Tins = append(s.Tins, roll.sheet(1, 3, 0, 0, 1).Tins...) }))
		}
		before, _ := tint.Count(s)
		for _, x := range better {
			after, e := tint.Count(x)
			if e != api.OK || after < before {
				t.Fatal(s, x, before, after, e)
			}
			if after > before {
				more++
			}
			for _, mix := range modelSure(s)[:min(before, 10)] {
				mix = append(mix, make([]int, len(x.Tins)-len(s.Tins))...)
				if w, e := tint.Word(x, mix); e != api.OK || w != surely {
					t.Fatal(s, x, mix, w, e)
				}
			}
		}
	}
	if more < 100 {
		t.Error(more)
	}
}

// P7.1 to P7.6: with other numbers for the pigments, the same is so of a sheet.
func TestRenumberedPigments(t *testing.T) {
	roll := dice(9)
	for range 300 {
		s := roll.any()
		turned := with(s, func(x *api.TintSheet) {
			for pigment := range 3 {
				from := (pigment + 1) % 3
				x.Old[pigment], x.Fade[pigment] = s.Old[from], s.Fade[from]
				for i := range x.Tins {
					x.Tins[i].Pigments[pigment] = s.Tins[i].Pigments[from]
				}
			}
		})
		mix := roll.mixture(len(s.Tins))
		aim, _ := tint.Aim(s)
		sums, _ := tint.Sums(s, mix)
		if y, e := tint.Aim(turned); e != api.OK || y != [3]api.Span{aim[1], aim[2], aim[0]} {
			t.Fatal(s, y, e)
		}
		if y, e := tint.Sums(turned, mix); e != api.OK || y != [3]api.Span{sums[1], sums[2], sums[0]} {
			t.Fatal(s, mix, y, e)
		}
		years, e := tint.Years(s, mix)
		if y, f := tint.Years(turned, mix); e != f || y != years {
			t.Fatal(s, mix, y, f)
		}
		near, off, _ := tint.Near(s)
		if y, n, e := tint.Near(turned); e != api.OK || n != off || !slices.Equal(y, near) {
			t.Fatal(s, y, n, e)
		}
		for _, of := range []func(api.TintSheet) ([]int, api.Errno){tint.First, tint.May, tint.Needs} {
			list, e := of(s)
			if y, f := of(turned); e != f || !slices.Equal(y, list) {
				t.Fatal(s, y, f)
			}
		}
		_, e = tint.Proof(s)
		if _, f := tint.Proof(turned); e != f {
			t.Fatal(s, e, f)
		}
	}
}

// P0.7: a mixture that is returned matches in truths that somebody proposes, and what a direction proves is so.
func TestMixtureOrDirection(t *testing.T) {
	roll := dice(10)
	proofs, matches := 0, 0
	for range 1000 {
		s := roll.any()
		first, e := tint.First(s)
		direction, f := tint.Proof(s)
		if e == api.OK && f == api.OK {
			t.Fatal(s, first, direction)
		}
		if f == api.OK {
			proofs++
		}
		for range 10 {
			truth := roll.truth(s)
			if e == api.OK {
				matches++
				if is, e := tint.True(s, first, truth); e != api.OK || !is {
					t.Fatal(s, first, truth, e)
				}
			}
			mix := roll.mixture(len(s.Tins))
			if is, e := tint.True(s, mix, truth); e != api.OK || is && f == api.OK {
				t.Fatal(s, direction, mix, truth, e)
			}
		}
	}
	if proofs < 100 || matches < 1000 {
		t.Error(proofs, matches)
	}
}

// all calls everything with some arguments; it is there to see that nothing panics, hangs, or changes them.
func all(s api.TintSheet, mix []int, truth api.TintTruth, text string) {
	tint.Check(s)
	tint.Aim(s)
	tint.Sums(s, mix)
	tint.True(s, mix, truth)
	tint.Word(s, mix)
	tint.Years(s, mix)
	tint.First(s)
	tint.May(s)
	tint.Count(s)
	tint.Near(s)
	tint.Needs(s)
	tint.Proof(s)
	tint.Print(s)
	tint.Read(text)
}

// wild returns numbers of which many are far out of range.
func (d *dice) wild() int {
	far := []int{math.MinInt, math.MaxInt, -1, 0, 1, 2, 3, 5, 8, 9, 10, 20, 21, 99, 100, 1 << 40}
	return far[d.upTo(len(far)-1)]
}

// wildList returns a list of such numbers.
func (d *dice) wildList() []int {
	var list []int
	for range d.upTo(5) {
		list = append(list, d.wild())
	}
	return list
}

// wildSpans returns three spans of such numbers.
func (d *dice) wildSpans() [3]api.Span {
	return three(d.wild(), d.wild(), d.wild(), d.wild(), d.wild(), d.wild())
}

// spoil changes some numbers of a sheet into any.
func (d *dice) spoil(s *api.TintSheet) {
	for range 1 + d.upTo(2) {
		switch d.upTo(7) {
		case 0:
			s.Old[d.upTo(2)] = d.wild()
		case 1:
			s.Fade[d.upTo(2)] = span(d.wild(), d.wild())
		case 2:
			s.Years = span(d.wild(), d.wild())
		case 3:
			s.Off = d.wild()
		case 4:
			s.Tins = append(s.Tins, api.TintTin{Pigments: d.wildSpans()})
		case 5:
			s.Tins = s.Tins[:d.upTo(len(s.Tins))]
		case 6:
			if len(s.Tins) > 0 {
				s.Tins[d.upTo(len(s.Tins)-1)].Pigments[d.upTo(2)] = span(d.wild(), d.wild())
			}
		case 7:
			*s = api.TintSheet{}
		}
	}
}

// spoilTruth changes some numbers of a truth into any.
func (d *dice) spoilTruth(t *api.TintTruth) {
	switch d.upTo(4) {
	case 0:
		t.Years = d.wild()
	case 1:
		t.Fade[d.upTo(2)] = d.wild()
	case 2:
		t.Tins = t.Tins[:d.upTo(len(t.Tins))]
	case 3:
		t.Tins = append(t.Tins, [3]int{d.wild(), d.wild(), d.wild()})
	case 4:
		t.Tins[d.upTo(len(t.Tins)-1)][d.upTo(2)] = d.wild()
	}
}

// P0.12: no function panics, whatever its arguments.
func TestAnyArguments(t *testing.T) {
	roll := dice(11)
	all(api.TintSheet{}, nil, api.TintTruth{}, "")
	all(largest(), l(2, 2, 2, 2), t0(), "end")
	all(widest(), l(math.MaxInt, math.MaxInt, math.MinInt, 2), api.TintTruth{Tins: make([][3]int, 4)}, "end 000\n")
	for range 1500 {
		s := roll.any()
		text, _ := tint.Print(s)
		at := roll.upTo(len(text) - 1)
		mix, truth := roll.mixture(len(s.Tins)), roll.truth(s)
		if roll.upTo(1) == 0 {
			roll.spoil(&s)
		}
		if roll.upTo(1) == 0 {
			mix = roll.wildList()
		}
		if roll.upTo(1) == 0 {
			roll.spoilTruth(&truth)
		}
		all(s, mix, truth, text[:at]+string(rune(roll.upTo(300)))+text[at:])
	}
}

// R3: nil and empty lists are the same: of no tins there is no mixture.
func TestEmptyLists(t *testing.T) {
	for _, s := range []api.TintSheet{with(one(), func(s *api.TintSheet) { s.Tins = nil }), with(one(), func(s *api.TintSheet) { s.Tins = []api.TintTin{} })} {
		for _, mix := range [][]int{nil, {}} {
			refuseMixture(t, s, mix)
			refuseMixture(t, one(), mix)
			refuseTruth(t, s, mix, api.TintTruth{Tins: [][3]int{}})
			refuseTruth(t, one(), l(1), api.TintTruth{Tins: [][3]int{}})
		}
	}
}

// R4: no argument is changed, nor what follows it in its memory.
func TestArgumentsStay(t *testing.T) {
	roll := dice(12)
	for range 100 {
		whole := roll.sheet(4, 3, 3, 2, 4)
		mix, truth := append(roll.mixture(4), 77, 78), roll.truth(whole)
		whole.Tins = append(whole.Tins, tin(71, 72, 73, 74, 75, 76))
		truth.Tins = append(truth.Tins, [3]int{81, 82, 83})
		before, mix2, truth2 := clone(whole), slices.Clone(mix), cloneTruth(truth)
		for tins := 1; tins <= 4; tins++ {
			s, in := whole, truth
			s.Tins, in.Tins = whole.Tins[:tins], truth.Tins[:tins]
			if e := tint.Check(s); e != api.OK {
				t.Fatal(s, e)
			}
			all(s, mix[:tins], in, "")
			if !sameSheet(whole, before) || !slices.Equal(mix, mix2) || !slices.Equal(truth.Tins, truth2.Tins) {
				t.Fatal(whole, before, mix, truth)
			}
		}
	}
}

// R4 and R8: results share no memory with arguments or with each other, and are the same each time.
func TestResultsStay(t *testing.T) {
	s, mix, truth := a(), l(1, 1, 0), t0()
	for i := range 3 {
		for j, of := range []func(api.TintSheet) ([]int, api.Errno){tint.First, tint.May} {
			y, e := of(s)
			if e != api.OK || !slices.Equal(y, l(1, 1, 0)) {
				t.Fatal(i, j, y, e)
			}
			y[0] = 9
		}
		near, n, e := tint.Near(s)
		if e != api.OK || n != 5 || !slices.Equal(near, l(1, 1, 0)) {
			t.Fatal(i, near, n, e)
		}
		needs, e := tint.Needs(s)
		if e != api.OK || !slices.Equal(needs, l(0, 1)) {
			t.Fatal(i, needs, e)
		}
		again, e := tint.Read(oneText)
		if e != api.OK || !sameSheet(again, one()) {
			t.Fatal(i, again, e)
		}
		if is, e := tint.True(s, mix, truth); e != api.OK || !is {
			t.Fatal(i, is, e)
		}
		near[0], needs[0], again.Tins[0] = 9, 9, api.TintTin{}
	}
	if !sameSheet(s, a()) || !slices.Equal(mix, l(1, 1, 0)) || !slices.Equal(truth.Tins, t0().Tins) {
		t.Error(s, mix, truth)
	}
}
