package daybook_test

import (
	"math"
	"slices"
	"strings"
	"testing"

	"mahlstick/api"
	"mahlstick/bench"
	"mahlstick/coat"
	"mahlstick/daybook"
	"mahlstick/letter"
	"mahlstick/price"
	"mahlstick/strip"
	"mahlstick/tint"
)

// P10.1: suites are as defined just if the layers say so of their parts, whatever is changed of them.
func TestCheckLikeTheModel(t *testing.T) {
	roll := dice(2)
	bad := 0
	for range 3000 {
		s := roll.suite()
		if roll.upTo(3) > 0 {
			roll.spoil(&s)
		}
		want := api.OK
		if !modelSuite(s) {
			want = api.ErrArg
			bad++
		}
		if e := daybook.Check(s); e != want {
			t.Fatal(s, e, want)
		}
		if d, e := daybook.Open(s); e != want || (d != nil) != (e == api.OK) {
			t.Fatal(s, d, e, want)
		}
	}
	if bad < 300 || bad > 2700 {
		t.Error(bad)
	}
}

// spoil changes some of a suite, so that it may be as defined or not.
func (d *dice) spoil(s *api.DaybookSuite) {
	number := func() int { return []int{math.MinInt, -1, 0, 1, 2, 3, 7, 40, 41, 400, 401, math.MaxInt}[d.upTo(11)] }
	switch d.upTo(11) {
	case 0:
		s.Front.Wide -= d.upTo(20)
	case 1:
		s.Front.Rows = number()
	case 2:
		s.Coats.Coats[0].Need = number()
	case 3:
		s.Coats.Dry[d.upTo(len(s.Coats.Dry)-1)] = span(number(), number())
	case 4:
		s.Board.Spots = append(s.Board.Spots, d.spot(6, 5))
	case 5:
		s.Board.Names = number()
	case 6:
		s.Bench.Boards = append(s.Bench.Boards, 1)
	case 7:
		s.Bench.Strokes[0].Board = number()
	case 8:
		s.Tints.Off = number()
	case 9:
		s.Stock[d.upTo(len(s.Stock)-1)] = number()
	case 10:
		s.Stock = append(s.Stock, 1)
	default:
		s.Prices.Boards[0].Owner = number()
	}
}

// answers returns what a desk says to all questions, but to the one of what stands.
func answers(d *daybook.Desk, s api.DaybookSuite) []string {
	var all []string
	for _, q := range allQuestions(s) {
		if q.Kind != api.DaybookStands {
			answer, e := d.Ask(q)
			all = append(all, said(decimals(answer), e))
		}
	}
	return all
}

// P10.2, P10.3 and P10.10: entries are made just if the definitions let them, and questions are answered by them; the journal is that of the entries that were made.
func TestLikeTheModel(t *testing.T) {
	roll := dice(3)
	made, refused := make([]int, 14), make([]int, 14)
	for range 400 {
		s := roll.suite()
		d, m := opened(t, s), model{s: s}
		for range 50 {
			x := roll.anyEntry(m)
			want := m.enter(x)
			if e := d.Enter(x); e != want {
				t.Fatal(s, m.made, x, e, want)
			}
			if want == api.OK {
				made[x.Kind]++
			} else {
				refused[x.Kind]++
			}
			all := allQuestions(s)
			for range 8 {
				q := all[roll.upTo(len(all)-1)]
				answer, e := d.Ask(q)
				if want, f := m.ask(q); e != f || !slices.Equal(answer, want) {
					t.Fatal(s, m.made, q, answer, e, want, f)
				}
			}
		}
		var lines strings.Builder
		for _, x := range m.made {
			lines.WriteString(strings.Join(append([]string{kinds()[x.Kind-1]}, decimals(x.Numbers)...), " ") + "\n")
		}
		if journal := journalOf(t, d); journal != lines.String() {
			t.Fatalf("%q %q", journal, lines.String())
		}
	}
	if least := min(slices.Min(made[1:]), slices.Min(refused[1:])); least < 30 {
		t.Error(made, refused)
	}
}

// season makes entries at desks of some suites, and calls a function after each one that was made.
func season(t *testing.T, seed dice, desks int, each func(d *daybook.Desk, m model)) {
	t.Helper()
	for range desks {
		s := seed.suite()
		d, m := opened(t, s), model{s: s}
		for range 60 {
			// the model notes what was made, and does not say whether it goes
			if x := seed.anyEntry(m); d.Enter(x) == api.OK {
				m.made = append(m.made, x)
				each(d, m)
			}
		}
	}
}

// P10.2: an entry that is not made, for whatever reason, changes nothing.
func TestRefusedEntriesChangeNothing(t *testing.T) {
	roll := dice(15)
	refused := 0
	for range 40 {
		s := roll.suite()
		d, m := opened(t, s), model{s: s}
		before := answers(d, s)
		for range 30 {
			x := roll.anyEntry(m)
			journal := journalOf(t, d)
			if d.Enter(x) == api.OK {
				m.made = append(m.made, x)
				before = answers(d, s)
				continue
			}
			refused++
			if after := answers(d, s); !slices.Equal(after, before) || journalOf(t, d) != journal {
				t.Fatal(s, m.made, x, before, after)
			}
		}
	}
	if refused < 400 {
		t.Error(refused)
	}
}

// ask returns the answer of a question, of which there must be one.
func ask(t *testing.T, d *daybook.Desk, q api.DaybookQuestion) []int {
	t.Helper()
	answer, e := d.Ask(q)
	if e != api.OK {
		t.Fatal(q, answer, e)
	}
	return answer
}

// P10.4 and P0.3: the whole name fits, and the plan surely holds, whatever is entered; a coat is laid on its day, and keeps it.
func TestNamesAndCoats(t *testing.T) {
	mended, anew := 0, 0
	season(t, 4, 150, func(d *daybook.Desk, m model) {
		if setting, stretch, e := letter.Set(m.front()); e != api.OK || !slices.Equal(ask(t, d, question("set")), l(len(setting.Ends), stretch)) {
			t.Fatal(m, setting, stretch, e)
		}
		plan := ask(t, d, question("plan"))
		coats := clone(m.s).Coats
		for _, n := range m.of(api.DaybookDry) {
			coats.Dry[n[0]] = span(n[1], n[2])
		}
		if word, e := coat.Word(coats, plan); e != api.OK || word != api.CoatSurely {
			t.Fatal(m, coats, plan, word, e)
		}
		// on which days coats were laid is what the waits before each one say
		day, laid := 0, 0
		for _, number := range m.stands() {
			switch x := m.made[number]; x.Kind {
			case api.DaybookWait:
				day += x.Numbers[0]
			case api.DaybookCoat:
				if plan[laid] != day {
					t.Fatal(m, plan, laid, day)
				}
				laid++
			}
		}
		if !slices.Equal(ask(t, d, question("day")), l(day)) || !slices.Equal(ask(t, d, question("laid")), l(laid)) {
			t.Fatal(m, day, laid)
		}
		if first, _ := coat.First(m.s.Coats); len(m.of(api.DaybookDry)) > 0 {
			mended++
			if !slices.Equal(first, plan) {
				anew++
			}
		}
	})
	if mended < 100 || anew < 30 {
		t.Error(mended, anew)
	}
}

// P10.5, P0.5 and P0.7: spots do not contradict each other, mixtures that were made could match, and no tin has less than nothing, nor more than the limit.
func TestBoardsAndColours(t *testing.T) {
	mixed, seen := 0, 0
	season(t, 5, 150, func(d *daybook.Desk, m model) {
		order := ask(t, d, question("order"))
		if misses, e := strip.Misses(m.board(), order); e != api.OK || len(misses) > 0 {
			t.Fatal(m, order, misses, e)
		}
		seen += len(m.of(api.DaybookSpot))
		for _, parts := range m.of(api.DaybookMix) {
			if word, e := tint.Word(m.s.Tints, parts); e != api.OK || word != api.TintMay && word != api.TintSurely {
				t.Fatal(m, parts, word, e)
			}
			mixed++
		}
		for tin := range m.s.Stock {
			if parts := ask(t, d, question("stock", tin)); parts[0] < 0 || parts[0] > api.DaybookStock {
				t.Fatal(m, tin, parts)
			}
		}
	})
	if mixed < 100 || seen < 100 {
		t.Error(mixed, seen)
	}
}

// P10.6 and P0.6: strokes are done after those that they need, and after those before them that have the same hand then; when they end is what layer 6 returns.
func TestWork(t *testing.T) {
	done, ended := 0, 0
	season(t, 6, 150, func(d *daybook.Desk, m model) {
		hands, over := map[int]int{}, map[int]bool{}
		for _, number := range m.stands() {
			switch x := m.made[number]; x.Kind {
			case api.DaybookGive:
				hands[x.Numbers[0]] = x.Numbers[1]
			case api.DaybookDone:
				stroke := x.Numbers[0]
				for other, hand := range hands {
					if other < stroke && hand == hands[stroke] && !over[other] {
						t.Fatal(m, stroke, other)
					}
				}
				for _, need := range m.s.Bench.Strokes[stroke].Needs {
					if !over[need] {
						t.Fatal(m, stroke, need)
					}
				}
				if _, given := hands[stroke]; !given || over[stroke] {
					t.Fatal(m, stroke)
				}
				over[stroke] = true
				done++
			}
		}
		var plan []int
		for stroke := range m.s.Bench.Strokes {
			plan = append(plan, ask(t, d, question("hand", stroke))...)
		}
		if len(hands) < len(m.s.Bench.Strokes) {
			if answer, e := d.Ask(question("ends")); e != api.ErrRule || len(answer) > 0 || len(plan) != len(hands) {
				t.Fatal(m, answer, e)
			}
			return
		}
		ended++
		ends, e := bench.Ends(m.s.Bench, plan)
		var both []int
		for _, x := range ends {
			both = append(both, x.Low, x.High)
		}
		if answer := ask(t, d, question("ends")); e != api.OK || !slices.Equal(answer, both) {
			t.Fatal(m, answer, both, e)
		}
	})
	if done < 100 || ended < 100 {
		t.Error(done, ended)
	}
}

// P10.7 and P0.8: nobody pays more than what is owed by layer 8, and that is what the desk answers.
func TestPrices(t *testing.T) {
	paid, whole := 0, 0
	season(t, 7, 200, func(d *daybook.Desk, m model) {
		hours := make([]int, len(m.s.Bench.Boards))
		for _, n := range m.of(api.DaybookHours) {
			hours[n[0]] = n[1]
		}
		deals, pays := m.of(api.DaybookDeal), m.of(api.DaybookPay)
		if len(deals) > 1 || len(pays) > 0 && (len(deals) == 0 || len(m.of(api.DaybookHours)) != len(hours)) {
			t.Fatal(m)
		}
		for _, n := range pays {
			owes, e := price.Owes(m.s.Prices, deals[0][0], hours)
			has := ask(t, d, question("paid", n[0]))
			if e != api.OK || has[0] < n[1] || has[0] > owes[n[0]] || !slices.Equal(ask(t, d, question("owes", n[0])), owes[n[0]:n[0]+1]) {
				t.Fatal(m, n, has, owes, e)
			}
			paid++
			if has[0] == owes[n[0]] {
				whole++
			}
		}
	})
	if paid < 100 || whole < 30 {
		t.Error(paid, whole)
	}
}

// P10.8: after an undo the desk answers as before the entry that was taken back.
func TestUndoTakesBack(t *testing.T) {
	taken := make([]int, 14)
	roll := dice(8)
	for range 150 {
		s := roll.suite()
		d, m := opened(t, s), model{s: s}
		for len(m.made) < api.DaybookEntries-2 {
			before, stands := answers(d, s), ask(t, d, question("stands"))
			x := roll.anyEntry(m)
			if x.Kind == api.DaybookUndo || d.Enter(x) != api.OK {
				continue
			}
			m.made = append(m.made, x)
			if e := d.Enter(entry("undo")); e != api.OK {
				t.Fatal(m, e)
			}
			m.made = append(m.made, entry("undo"))
			if after := answers(d, s); !slices.Equal(after, before) || !slices.Equal(ask(t, d, question("stands")), stands) {
				t.Fatal(m, x, before, after)
			}
			taken[x.Kind]++
			// half of the entries are made once more, so that the season goes on
			if roll.upTo(1) == 0 && d.Enter(x) == api.OK {
				m.made = append(m.made, x)
			}
		}
	}
	if slices.Min(taken[1:api.DaybookUndo]) < 5 {
		t.Error(taken)
	}
}

// P10.8: all entries that stand could have been made without the others, and the desk would answer the same.
func TestWhatStandsCouldBeAlone(t *testing.T) {
	undone := 0
	season(t, 9, 60, func(d *daybook.Desk, m model) {
		stands := ask(t, d, question("stands"))
		if !slices.Equal(stands, m.stands()) {
			t.Fatal(m, stands)
		}
		alone := opened(t, m.s)
		for _, number := range stands {
			if e := alone.Enter(m.made[number]); e != api.OK {
				t.Fatal(m, number, e)
			}
		}
		if one, other := answers(d, m.s), answers(alone, m.s); !slices.Equal(one, other) {
			t.Fatal(m, one, other)
		}
		undone += len(m.made) - len(stands)
	})
	if undone < 500 {
		t.Error(undone)
	}
}

// P10.10 and P0.10: a desk that is replayed from a journal answers as the one that wrote it, also to what is entered then, and writes the same journal.
func TestReplayedDesksAreTheSame(t *testing.T) {
	roll := dice(10)
	for range 150 {
		s := roll.suite()
		d, m := opened(t, s), model{s: s}
		for range roll.upTo(60) {
			if x := roll.anyEntry(m); d.Enter(x) == api.OK {
				m.made = append(m.made, x)
			}
		}
		journal := journalOf(t, d)
		again, number, e := daybook.Replay(s, journal)
		if e != api.OK || number != -1 {
			t.Fatal(s, journal, number, e)
		}
		for range 10 {
			if one, other := answers(d, s), answers(again, s); !slices.Equal(one, other) || !slices.Equal(ask(t, d, question("stands")), ask(t, again, question("stands"))) {
				t.Fatal(s, journal, one, other)
			}
			x := roll.anyEntry(m)
			e := d.Enter(x)
			if f := again.Enter(x); e != f {
				t.Fatal(s, journal, x, e, f)
			}
			if e == api.OK {
				m.made = append(m.made, x)
			}
		}
		if one, other := journalOf(t, d), journalOf(t, again); one != other || len(one) > api.DaybookText {
			t.Fatalf("%q %q", one, other)
		}
	}
}

// P10.10: of a journal with a line that was changed, is twice there, or is not, as many lines are played as can be.
func TestReplayUpToALine(t *testing.T) {
	roll := dice(11)
	failed, long := 0, 0
	for range 400 {
		s := roll.suite()
		d, m := opened(t, s), model{s: s}
		for range 70 {
			if x := roll.anyEntry(m); d.Enter(x) == api.OK {
				m.made = append(m.made, x)
			}
		}
		lines := strings.SplitAfter(journalOf(t, d), "\n")
		at := roll.upTo(len(lines) - 1)
		switch roll.upTo(2) {
		case 0:
			lines = slices.Insert(lines, at, lines[roll.upTo(len(lines)-1)])
		case 1:
			lines = slices.Delete(lines, at, at+1)
		default:
			lines[at] = "deal 0\n"
		}
		journal := strings.Join(lines, "")
		// the same lines, one by one
		other, want, e := opened(t, s), -1, api.OK
		for number, line := range strings.SplitAfter(journal, "\n") {
			if line == "" {
				continue
			}
			x, f := daybook.Parse(strings.TrimSuffix(line, "\n"))
			if f != api.OK {
				t.Fatal(line, f)
			}
			if e = other.Enter(x); e != api.OK {
				want = number
				break
			}
		}
		again, number, f := daybook.Replay(s, journal)
		if f != e || number != want || (again != nil) != (e == api.OK) {
			t.Fatal(s, journal, number, f, want, e)
		}
		if e == api.ErrRule {
			failed++
		}
		if e == api.ErrLong {
			long++
		}
		if e == api.OK && journalOf(t, again) != journal {
			t.Fatal(s, journal)
		}
	}
	if failed < 50 || long < 5 {
		t.Error(failed, long)
	}
}

// P10.11: Console answers as Enter and Ask do, line by line.
func TestConsoleLikeADesk(t *testing.T) {
	roll := dice(12)
	for range 300 {
		s := roll.suite()
		d, m := opened(t, s), model{s: s}
		var script, want strings.Builder
		all := allQuestions(s)
		for script.Len() < 900 {
			if roll.upTo(1) == 0 {
				q := all[roll.upTo(len(all)-1)]
				answer, e := d.Ask(q)
				script.WriteString(strings.Join(append([]string{topics()[q.Kind-1]}, decimals(q.Numbers)...), " ") + "\n")
				want.WriteString(said(decimals(answer), e) + "\n")
				continue
			}
			x := roll.anyEntry(m)
			line, _ := daybook.Write(x)
			e := d.Enter(x)
			script.WriteString(line + "\n")
			want.WriteString(said([]string{"noted"}, e) + "\n")
			if e == api.OK {
				m.made = append(m.made, x)
			}
		}
		if said, e := daybook.Console(s, script.String()); e != api.OK || said != want.String() {
			t.Fatalf("%v %q %q %q %v", s, script.String(), said, want.String(), e)
		}
	}
}

// P10.12 and R4: what is changed in a suite after a desk was opened does not change the desk.
func TestSuitesAreNotKept(t *testing.T) {
	for i, open := range []func(api.DaybookSuite) (*daybook.Desk, api.Errno){
		daybook.Open,
		func(s api.DaybookSuite) (*daybook.Desk, api.Errno) {
			d, _, e := daybook.Replay(s, "")
			return d, e
		},
	} {
		s := suite()
		d, e := open(s)
		if e != api.OK {
			t.Fatal(i, e)
		}
		before := answers(d, suite())
		s.Front.Widths[0], s.Front.Pairs[0].Space, s.Front.Words[0].Signs[0], s.Front.Words[1].Cuts[0] = 20, span(9, 9), 1, 9
		s.Front.Words[1] = api.LetterWord{}
		s.Coats.Dry[0], s.Coats.Work[0], s.Coats.Coats[0] = span(24, 24), 1, api.CoatCoat{Need: 1, Peel: 1}
		s.Board.Spots[0][0], s.Board.Spots[1] = 3, l(3, 0)
		s.Bench.Boards[0], s.Bench.Strokes[2].Needs[0], s.Bench.Strokes[1] = 99, 0, api.BenchStroke{Board: 1, Hours: span(6, 6)}
		s.Tints.Tins[0], s.Stock[0] = api.TintTin{}, 9
		s.Prices.Offs[0], s.Prices.Boards[0], s.Prices.Tariffs[0] = 99, api.PriceBoard{}, api.PriceTariff{Kind: 1, Units: 1, Rule: 1}
		if after := answers(d, suite()); !slices.Equal(after, before) {
			t.Error(i, before, after)
		}
		for _, line := range []string{"give 1 0", "done 1", "give 2 0", "done 2", "hours 0 3", "give 0 0", "done 0", "give 3 0", "done 3", "hours 1 2", "deal 0", "pay 0 12", "mix 3 2 0"} {
			if said := told(d, line); said != "noted" {
				t.Error(i, line, said)
			}
		}
	}
}

// P10.12 and R4: what is changed in an entry after it was made, or in an answer, does not change the desk.
func TestEntriesAndAnswersAreNotKept(t *testing.T) {
	d := opened(t, suite())
	spot, parts := l(2, 0), l(1, 1, 0)
	for _, x := range []api.DaybookEntry{{Kind: api.DaybookSpot, Numbers: spot}, {Kind: api.DaybookMix, Numbers: parts}, entry("give", 0, 0), entry("give", 1, 1), entry("give", 2, 0), entry("give", 3, 1), entry("coat"), entry("dry", 5, 1, 2)} {
		if e := d.Enter(x); e != api.OK {
			t.Fatal(x, e)
		}
	}
	before, journal := answers(d, suite()), journalOf(t, d)
	spot[0], spot[1], parts[0] = 0, 2, 5
	for range 2 {
		for _, q := range allQuestions(suite()) {
			answer, _ := d.Ask(q)
			for i := range answer {
				answer[i] = 77
			}
			answer = append(answer, 78)
			for i := range q.Numbers {
				q.Numbers[i] = 79
			}
		}
	}
	if after := answers(d, suite()); !slices.Equal(after, before) || journalOf(t, d) != journal || !slices.Equal(ask(t, d, question("stands")), l(0, 1, 2, 3, 4, 5, 6, 7)) {
		t.Error(before, after, journalOf(t, d))
	}
	x, e := daybook.Parse("spot 2 0")
	if e != api.OK {
		t.Fatal(e)
	}
	x.Numbers[0] = 9
	if again, e := daybook.Parse("spot 2 0"); e != api.OK || !sameEntry(again, entry("spot", 2, 0)) {
		t.Error(again, e)
	}
}

// R4 and R8: desks are apart from each other, also a copy of one, and a desk says the same each time.
func TestDesksAreApart(t *testing.T) {
	s := suite()
	one, other := opened(t, s), opened(t, s)
	for i := range 5 {
		if e := one.Enter(entry("fill", 0, 1)); e != api.OK {
			t.Fatal(i, e)
		}
	}
	if stock := ask(t, other, question("stock", 0)); !slices.Equal(stock, l(5)) || journalOf(t, other) != "" {
		t.Error(stock)
	}
	third := *one
	if e, f := one.Enter(entry("fill", 1, 2)), third.Enter(entry("coat")); e != api.OK || f != api.OK {
		t.Error(e, f)
	}
	fills := strings.Repeat("fill 0 1\n", 5)
	if a, b := journalOf(t, one), journalOf(t, &third); a != fills+"fill 1 2\n" || b != fills+"coat\n" {
		t.Errorf("%q %q", a, b)
	}
	for range 3 {
		if a, b := answers(one, s), answers(one, s); !slices.Equal(a, b) {
			t.Error(a, b)
		}
	}
}

// R4: no argument is changed, nor what follows it in its memory.
func TestArgumentsStay(t *testing.T) {
	roll := dice(13)
	for range 200 {
		s := roll.suite()
		before := clone(s)
		m := model{s: s}
		d := opened(t, s)
		daybook.Check(s)
		var journal string
		for range 30 {
			x := roll.anyEntry(m)
			numbers := append(slices.Clone(x.Numbers), 71, 72)
			x.Numbers = numbers[:len(x.Numbers)]
			its := slices.Clone(numbers)
			if d.Enter(x) == api.OK {
				m.made = append(m.made, api.DaybookEntry{Kind: x.Kind, Numbers: slices.Clone(x.Numbers)})
			}
			daybook.Write(x)
			if !slices.Equal(numbers, its) {
				t.Fatal(s, x, numbers, its)
			}
		}
		for _, q := range allQuestions(s) {
			numbers := append(slices.Clone(q.Numbers), 71, 72)
			q.Numbers = numbers[:len(q.Numbers)]
			its := slices.Clone(numbers)
			d.Ask(q)
			if !slices.Equal(numbers, its) {
				t.Fatal(s, q, numbers, its)
			}
		}
		journal = journalOf(t, d)
		daybook.Replay(s, journal)
		daybook.Console(s, journal)
		if !sameSuite(s, before) {
			t.Fatal(s, before)
		}
	}
}

func sameSuite(a, b api.DaybookSuite) bool {
	same := func(x, y []int) bool { return slices.Equal(x, y) }
	return same(a.Front.Widths, b.Front.Widths) && slices.Equal(a.Front.Pairs, b.Front.Pairs) && a.Front.Other == b.Front.Other && a.Front.Gap == b.Front.Gap && a.Front.Hyphen == b.Front.Hyphen && a.Front.Wide == b.Front.Wide && a.Front.Rows == b.Front.Rows &&
		slices.EqualFunc(a.Front.Words, b.Front.Words, func(x, y api.LetterWord) bool {
			return same(x.Signs, y.Signs) && same(x.Cuts, y.Cuts) && x.Free == y.Free
		}) &&
		slices.Equal(a.Coats.Dry, b.Coats.Dry) && same(a.Coats.Work, b.Coats.Work) && slices.Equal(a.Coats.Coats, b.Coats.Coats) &&
		a.Board.Names == b.Board.Names && slices.EqualFunc(a.Board.Spots, b.Board.Spots, same) &&
		a.Bench.Apprentices == b.Bench.Apprentices && same(a.Bench.Boards, b.Bench.Boards) && slices.EqualFunc(a.Bench.Strokes, b.Bench.Strokes, func(x, y api.BenchStroke) bool {
		return x.Board == y.Board && x.Round == y.Round && x.Hours == y.Hours && same(x.Needs, y.Needs)
	}) &&
		a.Tints.Old == b.Tints.Old && a.Tints.Fade == b.Tints.Fade && a.Tints.Years == b.Tints.Years && a.Tints.Off == b.Tints.Off && slices.Equal(a.Tints.Tins, b.Tints.Tins) && same(a.Stock, b.Stock) &&
		same(a.Prices.Offs, b.Prices.Offs) && slices.Equal(a.Prices.Boards, b.Prices.Boards) && slices.Equal(a.Prices.Tariffs, b.Prices.Tariffs)
}

// wild returns numbers of which many are far out of range.
func (d *dice) wild() int {
	far := l(math.MinInt, math.MaxInt, -1, 0, 1, 2, 3, 4, 5, 9, 24, 40, 41, 400, 9999, 10000, 1<<40)
	return far[d.upTo(len(far)-1)]
}

// P0.12: no function panics, whatever its arguments.
func TestAnyArguments(t *testing.T) {
	roll := dice(14)
	for range 600 {
		s := roll.suite()
		if roll.upTo(1) == 0 {
			roll.spoil(&s)
			roll.spoil(&s)
		}
		d, e := daybook.Open(s)
		if e != api.OK && roll.upTo(1) == 0 {
			d = &daybook.Desk{}
		}
		daybook.Check(s)
		var script strings.Builder
		for range 40 {
			var numbers []int
			for range roll.upTo(6) {
				numbers = append(numbers, roll.wild())
			}
			x := api.DaybookEntry{Kind: api.DaybookKind(roll.upTo(15)), Numbers: numbers}
			q := api.DaybookQuestion{Kind: api.DaybookTopic(roll.upTo(18)), Numbers: numbers}
			d.Enter(x)
			d.Ask(q)
			line, _ := daybook.Write(x)
			daybook.Parse(line + string(rune(roll.upTo(300))))
			script.WriteString(slices.Concat(kinds(), topics(), noLines())[roll.upTo(70)] + " " + strings.Join(decimals(numbers), " ")[:roll.upTo(min(20, len(strings.Join(decimals(numbers), " "))))] + "\n")
		}
		d.Journal()
		daybook.Replay(s, script.String())
		daybook.Console(s, script.String()[:min(1000, script.Len())])
		daybook.Console(s, strings.ToUpper(script.String()[:min(999, script.Len())])+"\n")
	}
}

// R3: nil and empty lists are the same.
func TestEmptyLists(t *testing.T) {
	for _, none := range [][]int{nil, {}} {
		s := with(suite(), func(s *api.DaybookSuite) { s.Front.Words[0].Cuts, s.Bench.Strokes[0].Needs = none, none })
		d := opened(t, s)
		for _, word := range []string{"coat", "undo", "coat"} {
			if e := d.Enter(entry(word, none...)); e != api.OK {
				t.Error(word, e)
			}
		}
		if e := d.Enter(entry("wait", none...)); e != api.ErrArg {
			t.Error(e)
		}
		if answer, e := d.Ask(question("laid", none...)); e != api.OK || !slices.Equal(answer, l(1)) {
			t.Error(answer, e)
		}
		if journal := journalOf(t, d); journal != "coat\nundo\ncoat\n" {
			t.Errorf("%q", journal)
		}
		if e := daybook.Check(with(suite(), func(s *api.DaybookSuite) { s.Stock = none })); e != api.ErrArg {
			t.Error(e)
		}
	}
}
