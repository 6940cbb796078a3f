package daybook_test

import (
	"math"
	"slices"
	"strconv"
	"strings"
	"testing"

	"mahlstick/api"
	"mahlstick/daybook"
)

func l(numbers ...int) []int { return numbers }

func span(low, high int) api.Span { return api.Span{Low: low, High: high} }

// kinds and topics have the words of entries and of questions.
func kinds() []string {
	return strings.Fields("wait coat dry spot mix fill give done hours deal pay front undo")
}
func topics() []string {
	return strings.Fields("day set plan laid order before stock word hand ready ends best owes paid same stands")
}

// entry and question return the ones that have a word and some numbers; there may be no such ones.
func entry(word string, numbers ...int) api.DaybookEntry {
	return api.DaybookEntry{Kind: api.DaybookKind(slices.Index(kinds(), word) + 1), Numbers: numbers}
}
func question(word string, numbers ...int) api.DaybookQuestion {
	return api.DaybookQuestion{Kind: api.DaybookTopic(slices.Index(topics(), word) + 1), Numbers: numbers}
}

// suite returns the suite s of the chapter.
func suite() api.DaybookSuite {
	return api.DaybookSuite{
		Front: api.LetterSheet{
			Widths: l(6, 4, 8), Pairs: []api.LetterPair{{Left: 0, Right: 1, Space: span(1, 3)}, {Left: 2, Right: 0, Space: span(0, 2)}},
			Other: span(2, 4), Gap: span(5, 8), Hyphen: 3, Words: []api.LetterWord{{Signs: l(2, 0, 1)}, {Signs: l(0, 2), Cuts: l(1), Free: true}},
			Wide: 21, Rows: 2,
		},
		Coats: api.CoatSheet{
			Dry:  []api.Span{span(6, 8), span(4, 6), span(8, 10), span(2, 4), span(6, 6), span(5, 9), span(8, 12), span(4, 4)},
			Work: l(0, 1, 2, 3, 4, 5, 6, 7), Coats: []api.CoatCoat{{Need: 9, Peel: 20}, {Need: 10, Peel: 20}, {Need: 8, Peel: 30}},
		},
		Board: api.StripBoard{Names: 4, Spots: [][]int{{0, 1}, {2, 1}, {2, 3}}},
		Bench: api.BenchBook{Apprentices: 1, Boards: l(5, 6), Strokes: []api.BenchStroke{
			{Board: 1, Round: true, Hours: span(2, 2)}, {Board: 0, Hours: span(2, 3)}, {Board: 0, Round: true, Hours: span(1, 2), Needs: l(1)}, {Board: 1, Hours: span(1, 3), Needs: l(0)},
		}},
		Tints: api.TintSheet{Old: [3]int{60, 40, 20}, Fade: [3]api.Span{span(1, 2), span(1, 1), span(0, 0)}, Years: span(5, 5), Off: 5, Tins: []api.TintTin{
			{Pigments: [3]api.Span{span(80, 82), span(20, 20), span(0, 2)}}, {Pigments: [3]api.Span{span(20, 22), span(60, 60), span(40, 40)}}, {Pigments: [3]api.Span{span(50, 50), span(10, 12), span(30, 30)}},
		}},
		Stock: l(5, 5, 5),
		Prices: api.PriceSheet{
			Offs:   l(0, 25),
			Boards: []api.PriceBoard{{Letters: 7, Feet: 10, Hours: span(3, 4), Owner: 0}, {Letters: 5, Feet: 6, Hours: span(2, 2), Owner: 1}},
			Tariffs: []api.PriceTariff{
				{Kind: api.PriceLetter, Coins: 5, Units: 3, Rule: api.PriceNear, Each: true}, {Kind: api.PriceFoot, Coins: 5, Units: 4, Rule: api.PriceDown}, {Kind: api.PriceHour, Coins: 4, Units: 1, Rule: api.PriceUp, Each: true},
			},
		},
	}
}

// opened returns a desk of a suite, which must be as defined.
func opened(t *testing.T, s api.DaybookSuite) *daybook.Desk {
	t.Helper()
	d, e := daybook.Open(s)
	if e != api.OK || d == nil {
		t.Fatal(s, d, e)
	}
	return d
}

// told returns what the desk says to a line of a script, by Enter and Ask; the line is one of an entry or of a question.
func told(d *daybook.Desk, line string) string {
	words := strings.Fields(line)
	var numbers []int
	for _, word := range words[1:] {
		number, _ := strconv.Atoi(word)
		numbers = append(numbers, number)
	}
	if slices.Contains(kinds(), words[0]) {
		return said([]string{"noted"}, d.Enter(entry(words[0], numbers...)))
	}
	answer, e := d.Ask(question(words[0], numbers...))
	return said(decimals(answer), e)
}

// decimals returns numbers in decimal.
func decimals(numbers []int) []string {
	var words []string
	for _, number := range numbers {
		words = append(words, strconv.Itoa(number))
	}
	return words
}

// said returns the line of an answer with some words, or with an error.
func said(words []string, e api.Errno) string {
	switch {
	case e != api.OK:
		return "error " + strconv.Itoa(int(e))
	case len(words) == 0:
		return "nothing"
	default:
		return strings.Join(words, " ")
	}
}

// play checks what a desk of a suite says to the lines of a script, each of which has its answer after a colon: by Enter and Ask, and by Console. It returns the desk.
func play(t *testing.T, s api.DaybookSuite, script ...string) *daybook.Desk {
	t.Helper()
	d := opened(t, s)
	var lines, answers strings.Builder
	for i, x := range script {
		line, answer, _ := strings.Cut(x, ": ")
		if said := told(d, line); said != answer {
			t.Errorf("%d: %s: %s, not %s", i, line, said, answer)
		}
		lines.WriteString(line + "\n")
		answers.WriteString(answer + "\n")
	}
	if said, e := daybook.Console(s, lines.String()); e != api.OK || said != answers.String() {
		t.Errorf("%q %v", said, e)
	}
	return d
}

// P10.1 to P10.8 and P10.11: the first example of the chapter.
func TestFirstExample(t *testing.T) {
	play(t, suite(),
		"set: 2 9", "plan: 0 2 4", "coat: noted", "coat: error 7", "wait 2: noted", "wait 1: error 7", "dry 3 0 4: noted", "plan: 0 2 5", "coat: noted", "dry 2 8 8: error 7", "dry 4 9 9: error 7", "wait 3: noted", "coat: noted", "laid: 3", "wait 3: error 7", "wait 2: noted", "day: 7", "order: 0 2 1 3",
		"before 0 2: 2", "spot 2 0: noted", "order: 2 0 1 3", "before 0 2: 1", "spot 0 2: error 7", "word 1 1 0: 3", "mix 1 1 0: noted", "mix 1 2 0: error 7", "mix 3 2 0: noted", "stock 0: 1", "mix 2 2 0: error 7", "fill 0 9: noted", "stock 0: 10", "fill 0 31: error 7", "front 18: error 7", "front 19: noted", "set: 2 4", "stands: 0 1 2 3 4 5 6 7 8 9 10 11",
	)
}

// P10.1 to P10.8 and P10.11: the second example of the chapter.
func TestSecondExample(t *testing.T) {
	play(t, suite(),
		"give 2 1: error 7", "give 2 0: noted", "hand 2: 0", "hand 1: nothing", "done 2: error 7", "give 1 1: noted", "ready: 1", "done 1: noted", "ready: 2", "done 2: noted", "hours 0 3: noted", "hours 1 2: error 7", "ends: error 7", "give 0 0: noted", "best: 0 1 0 1",
		"done 0: noted", "give 3 1: noted", "done 3: noted", "ends: 2 2 2 3 3 5 3 6", "hours 1 2: noted", "owes 0: error 7", "deal 1: noted", "owes 0: 13", "owes 1: 6", "pay 0 13: noted", "pay 0 1: error 7", "paid 0: 13", "same 0 1: 3", "undo: noted", "paid 0: 0",
	)
}

// P10.1 and P10.3: at the beginning nothing is done, and all is as the suite has it.
func TestBeginning(t *testing.T) {
	play(t, suite(),
		"day: 0", "laid: 0", "plan: 0 2 4", "stock 0: 5", "stock 1: 5", "stock 2: 5", "hand 0: nothing", "hand 3: nothing", "ready: nothing", "ends: error 7", "owes 0: error 7", "owes 1: error 7", "paid 0: 0", "paid 1: 0", "stands: nothing", "undo: error 7", "best: 0 1 0 1", "same 0 2: 2", "same 2 0: 2", "order: 0 2 1 3", "before 1 0: 1", "before 0 1: 3", "word 1 2 0: 1", "word 3 2 0: 2",
	)
}

// badSuites returns suites that are not as defined, each by one change.
func badSuites() []api.DaybookSuite {
	bad := []api.DaybookSuite{{}}
	for _, change := range []func(*api.DaybookSuite){
		// the name does not fit, or the front is none
		func(s *api.DaybookSuite) { s.Front.Wide = 18 },
		func(s *api.DaybookSuite) { s.Front.Rows = 1 },
		func(s *api.DaybookSuite) { s.Front.Wide = 401 },
		func(s *api.DaybookSuite) { s.Front.Words[0].Signs = l(3) },
		func(s *api.DaybookSuite) { s.Front = api.LetterSheet{} },
		// no plan surely holds, or the coats are none
		func(s *api.DaybookSuite) { s.Coats.Work = l(0, 2, 3) },
		func(s *api.DaybookSuite) { s.Coats.Work = nil },
		func(s *api.DaybookSuite) { s.Coats.Coats[0] = api.CoatCoat{Need: 60, Peel: 60} },
		func(s *api.DaybookSuite) { s.Coats.Dry[7] = span(5, 4) },
		func(s *api.DaybookSuite) { s.Coats = api.CoatSheet{} },
		// the spots contradict each other, or the board is none
		func(s *api.DaybookSuite) { s.Board.Spots = append(s.Board.Spots, l(1, 0)) },
		func(s *api.DaybookSuite) { s.Board.Spots[0] = nil },
		func(s *api.DaybookSuite) { s.Board.Names = 3 },
		func(s *api.DaybookSuite) { s.Board = api.StripBoard{} },
		func(s *api.DaybookSuite) { s.Bench.Strokes[2].Needs = l(2) },
		func(s *api.DaybookSuite) { s.Bench.Apprentices = 4 },
		func(s *api.DaybookSuite) { s.Bench.Boards = s.Bench.Boards[:1] },
		func(s *api.DaybookSuite) { s.Bench = api.BenchBook{} },
		func(s *api.DaybookSuite) { s.Tints.Off = 0 },
		func(s *api.DaybookSuite) { s.Tints.Tins[0].Pigments[1] = span(21, 20) },
		func(s *api.DaybookSuite) { s.Tints.Tins, s.Stock = nil, nil },
		func(s *api.DaybookSuite) { s.Stock = nil },
		func(s *api.DaybookSuite) { s.Stock = l(5, 5) },
		func(s *api.DaybookSuite) { s.Stock = l(5, 5, 5, 5) },
		func(s *api.DaybookSuite) { s.Stock[2] = -1 },
		func(s *api.DaybookSuite) { s.Stock[0] = 41 },
		func(s *api.DaybookSuite) { s.Stock[1] = math.MaxInt },
		func(s *api.DaybookSuite) { s.Stock[1] = math.MinInt },
		func(s *api.DaybookSuite) { s.Prices.Offs[0] = 101 },
		func(s *api.DaybookSuite) { s.Prices.Tariffs[0].Units = 0 },
		func(s *api.DaybookSuite) { s.Prices.Tariffs = nil },
		func(s *api.DaybookSuite) { s.Prices = api.PriceSheet{} },
		// there are more boards on the bench than in the prices, or less
		func(s *api.DaybookSuite) { s.Bench.Boards = append(s.Bench.Boards, 9) },
		func(s *api.DaybookSuite) { s.Prices.Boards = append(s.Prices.Boards, s.Prices.Boards[0]) },
		func(s *api.DaybookSuite) { s.Prices.Boards = s.Prices.Boards[:1] },
	} {
		bad = append(bad, with(suite(), change))
	}
	return bad
}

// P10.1, P10.10 and P10.11: a suite that is not as defined is refused first, whatever is to be entered, and nothing is returned.
func TestBadSuites(t *testing.T) {
	for i, s := range badSuites() {
		if e := daybook.Check(s); e != api.ErrArg {
			t.Error(i, e)
		}
		if d, e := daybook.Open(s); e != api.ErrArg || d != nil {
			t.Error(i, d, e)
		}
		for _, text := range []string{"", "day\n", "coat", "x\n", strings.Repeat("x", 1001)} {
			if d, n, e := daybook.Replay(s, text); e != api.ErrArg || d != nil || n != 0 {
				t.Error(i, text, d, n, e)
			}
			if answers, e := daybook.Console(s, text); e != api.ErrArg || answers != "" {
				t.Error(i, text, answers, e)
			}
		}
	}
}

// P10.1: suites at the limits are as defined.
func TestGoodSuites(t *testing.T) {
	for i, change := range []func(*api.DaybookSuite){
		func(*api.DaybookSuite) {},
		func(s *api.DaybookSuite) { s.Front.Wide = 19 },
		func(s *api.DaybookSuite) { s.Front.Wide = 400 },
		func(s *api.DaybookSuite) { s.Coats.Work = l(0, 2, 4) },
		func(s *api.DaybookSuite) { s.Board.Spots = nil },
		func(s *api.DaybookSuite) { s.Board = api.StripBoard{Names: 1} },
		func(s *api.DaybookSuite) { s.Bench.Apprentices = 0 },
		func(s *api.DaybookSuite) { s.Stock = l(0, 40, 0) },
		func(s *api.DaybookSuite) { s.Stock = l(0, 0, 0) },
		// no mixture matches
		func(s *api.DaybookSuite) { s.Tints.Tins, s.Stock = s.Tints.Tins[1:], l(40, 40) },
		// there are three boards, one of which has no strokes
		func(s *api.DaybookSuite) {
			s.Bench.Boards, s.Prices.Boards = append(s.Bench.Boards, 0), append(s.Prices.Boards, s.Prices.Boards[1])
		},
	} {
		s := with(suite(), change)
		if e := daybook.Check(s); e != api.OK {
			t.Error(i, e)
		}
		opened(t, s)
		if d, n, e := daybook.Replay(s, ""); e != api.OK || d == nil || n != -1 {
			t.Error(i, d, n, e)
		}
		if answers, e := daybook.Console(s, ""); e != api.OK || answers != "" {
			t.Error(i, answers, e)
		}
	}
}

// P10.2 and P10.4: days go on up to the last one, but not past that of a coat that is not laid.
func TestWait(t *testing.T) {
	play(t, suite(), "wait 0: error 7", "wait 1: error 7", "coat: noted", "wait 0: error 7", "wait 3: error 7", "wait 1: noted", "wait 2: error 7", "wait 1: noted", "day: 2", "wait 1: error 7", "coat: noted", "wait 2: noted", "coat: noted", "wait 4: error 7", "wait 9999: error 7", "wait 3: noted", "day: 7", "wait 1: error 7", "wait 0: error 7")
	// the first coat has a later day
	late := with(suite(), func(s *api.DaybookSuite) { s.Coats.Work = l(2, 4, 6) })
	play(t, late, "plan: 2 4 6", "coat: error 7", "wait 3: error 7", "wait 2: noted", "wait 1: error 7", "coat: noted", "wait 2: noted", "coat: noted", "wait 3: error 7", "wait 2: noted", "coat: noted", "wait 1: noted", "day: 7")
	play(t, oneDay(), "wait 1: error 7", "coat: noted", "wait 1: error 7")
}

// oneDay returns a suite with a single day, and a single coat.
func oneDay() api.DaybookSuite {
	return with(suite(), func(s *api.DaybookSuite) {
		s.Coats = api.CoatSheet{Dry: []api.Span{span(1, 2)}, Work: l(0), Coats: []api.CoatCoat{{Need: 1, Peel: 3}}}
	})
}

// P10.2 and P10.4: coats are laid in order, each once, on the days of the plan.
func TestCoat(t *testing.T) {
	play(t, suite(), "laid: 0", "coat: noted", "laid: 1", "coat: error 7", "wait 1: noted", "coat: error 7", "wait 1: noted", "coat: noted", "laid: 2", "coat: error 7", "wait 2: noted", "coat: noted", "laid: 3", "coat: error 7", "plan: 0 2 4", "wait 1: noted", "coat: error 7")
	play(t, oneDay(), "coat: noted", "coat: error 7", "laid: 1", "plan: 0", "dry 0 1 2: error 7")
}

// P10.2 and P10.4: days are foreseen anew from the first open one on, if a plan is left then.
func TestDry(t *testing.T) {
	// there are no days before the first open one, nor after the last one; and spans must be spans
	play(t, suite(), "dry 8 4 4: error 7", "dry 9999 4 4: error 7", "dry 7 5 4: error 7", "dry 7 4 25: error 7", "dry 7 0 9999: error 7", "dry 7 24 24: noted", "plan: 0 2 4", "dry 0 6 8: noted", "coat: noted", "dry 0 6 8: error 7", "dry 1 4 6: noted", "wait 1: noted", "dry 0 6 8: error 7", "dry 1 4 6: noted", "wait 1: noted", "dry 1 4 6: error 7", "dry 2 8 10: noted", "coat: noted", "dry 2 8 10: error 7", "dry 3 2 4: noted", "plan: 0 2 4", "stands: 0 1 2 3 4 5 6 7 8 9")
	// what is laid keeps its day, and what is not is planned anew: as many coats as can be keep theirs
	play(t, suite(), "dry 0 3 3: noted", "plan: 0 3 6", "dry 0 6 8: noted", "plan: 1 3 6", "undo: noted", "undo: noted", "plan: 0 2 4", "coat: noted", "dry 1 20 24: error 7", "dry 1 3 3: noted", "plan: 0 2 4", "dry 1 2 2: noted", "plan: 0 3 6", "wait 2: noted", "coat: error 7", "wait 1: noted", "coat: noted", "laid: 2", "plan: 0 3 6")
	// what was foreseen stays so: if it is taken back, an entry goes that did not
	play(t, suite(), "coat: noted", "wait 2: noted", "dry 3 0 4: noted", "coat: noted", "dry 4 7 7: error 7", "dry 4 6 6: noted", "plan: 0 2 5", "undo: noted", "undo: noted", "undo: noted", "coat: noted", "dry 4 7 7: noted", "plan: 0 2 4")
	// when all are laid, the last one must still dry
	play(t, suite(), "coat: noted", "wait 2: noted", "coat: noted", "wait 2: noted", "coat: noted", "dry 4 6 6: error 7", "wait 1: noted", "dry 5 0 0: noted", "wait 1: noted", "dry 6 0 0: noted", "dry 7 1 1: error 7", "dry 7 2 2: noted", "dry 6 0 1: noted", "wait 1: noted", "dry 6 0 0: error 7", "dry 7 1 4: error 7", "dry 7 24 24: noted", "plan: 0 2 4")
}

// P10.2 and P10.5: spots are those of layer 5, not too many, and do not contradict each other.
func TestSpot(t *testing.T) {
	play(t, suite(), "spot 4: error 7", "spot 0 0: error 7", "spot 1 0: error 7", "spot 9999: error 7", "spot 0 1 2 3 4: error 7", "spot 1 3 2: error 7", "spot 0: noted", "spot 0 1: noted", "order: 0 2 1 3", "spot 2 3 0 1: noted", "order: 2 3 0 1", "before 0 3: 1", "spot 0: error 7", "undo: noted", "order: 0 2 1 3", "spot 3 0: noted", "order: 2 3 0 1", "spot 3 0: error 7")
	five := with(suite(), func(s *api.DaybookSuite) { s.Board = api.StripBoard{Names: 6} })
	play(t, five, "order: 0 1 2 3 4 5", "spot 5 4 3 2 1: noted", "order: 0 5 4 3 2 1", "spot 1 5: error 7", "spot 1 0: noted", "order: 5 4 3 2 1 0", "before 5 0: 3")
}

// P10.2 and P10.5: parts are mixtures that can match, and are in stock.
func TestMix(t *testing.T) {
	play(t, suite(), "mix 1: error 7", "mix 1 1: error 7", "mix 1 1 0 0: error 7", "mix 0 0 0: error 7", "mix 5 4 0: error 7", "mix 9999 0 0: error 7", "mix 1 0 0: error 7", "mix 1 2 0: error 7", "stock 0: 5", "word 3 2 0: 2", "mix 3 2 0: noted", "stock 0: 2", "stock 1: 3", "stock 2: 5", "mix 3 2 0: error 7", "mix 2 2 0: noted", "stock 0: 0", "stock 1: 1", "mix 1 1 0: error 7", "fill 0 1: noted", "mix 1 1 0: noted", "stock 0: 0", "stock 1: 0", "stock 2: 5", "undo: noted", "stock 0: 1", "stock 1: 1")
	// of each tin there must be enough
	play(t, with(suite(), func(s *api.DaybookSuite) { s.Stock = l(5, 0, 5) }), "mix 1 1 0: error 7", "fill 1 1: noted", "mix 1 1 0: noted", "stock 1: 0")
	play(t, with(suite(), func(s *api.DaybookSuite) { s.Stock = l(40, 40, 0) }), "word 2 2 1: 3", "mix 2 2 1: error 7", "mix 2 2 0: noted", "fill 2 1: noted", "mix 2 2 1: noted", "stock 0: 36", "stock 1: 36", "stock 2: 0")
}

// P10.2 and P10.5: tins are filled up to the limit.
func TestFill(t *testing.T) {
	play(t, suite(), "fill 3 1: error 7", "fill 9999 1: error 7", "fill 0 0: error 7", "fill 0 36: error 7", "fill 0 9999: error 7", "fill 0 35: noted", "stock 0: 40", "fill 0 1: error 7", "fill 0 0: error 7", "stock 1: 5", "fill 2 1: noted", "stock 2: 6", "fill 2 34: noted", "stock 2: 40", "mix 1 1 0: noted", "fill 0 2: error 7", "fill 0 1: noted", "stock 0: 40")
}

// P10.2 and P10.6: each stroke is given once, a round one to the master.
func TestGive(t *testing.T) {
	play(t, suite(), "give 4 0: error 7", "give 9999 0: error 7", "give 1 2: error 7", "give 1 9999: error 7", "give 0 1: error 7", "give 2 1: error 7", "give 0 0: noted", "hand 0: 0", "give 0 0: error 7", "give 3 0: noted", "hand 3: 0", "give 3 1: error 7", "give 3 0: error 7", "give 1 1: noted", "hand 1: 1", "undo: noted", "hand 1: nothing", "give 1 0: noted", "hand 1: 0", "ends: error 7", "give 2 0: noted", "ends: 2 2 4 5 5 7 6 10")
	alone := with(suite(), func(s *api.DaybookSuite) { s.Bench.Apprentices = 0 })
	play(t, alone, "give 1 1: error 7", "give 1 0: noted", "best: 0 0 0 0")
	many := with(suite(), func(s *api.DaybookSuite) { s.Bench.Apprentices = 3 })
	play(t, many, "give 1 4: error 7", "give 1 3: noted", "hand 1: 3", "done 1: noted", "give 1 3: error 7")
}

// P10.2, P10.3 and P10.6: strokes are done in the order of their needs and of their hands.
func TestDone(t *testing.T) {
	play(t, suite(), "done 4: error 7", "done 9999: error 7", "done 0: error 7", "ready: nothing", "give 0 0: noted", "give 3 1: noted", "ready: 0", "done 3: error 7", "done 0: noted", "done 0: error 7", "ready: 3", "give 1 1: noted", "ready: 1", "done 3: error 7", "done 1: noted", "ready: 3", "give 2 0: noted", "ready: 2 3", "done 3: noted", "ready: 2", "undo: noted", "ready: 2 3", "done 2: noted", "done 3: noted", "ready: nothing", "done 3: error 7")
	// the stroke 2 waits for the stroke 0 of the same hand, but not if it is given later
	play(t, suite(), "give 0 0: noted", "give 1 1: noted", "give 2 0: noted", "ready: 0 1", "done 1: noted", "ready: 0", "done 2: error 7", "done 0: noted", "ready: 2", "done 2: noted")
	play(t, suite(), "give 1 1: noted", "give 2 0: noted", "done 1: noted", "ready: 2", "done 2: noted", "give 0 0: noted", "ready: 0", "done 0: noted", "ready: nothing")
	// a stroke that it needs has no hand, or another one; those after it do not matter
	play(t, suite(), "give 3 1: noted", "ready: nothing", "done 3: error 7", "give 2 0: noted", "done 2: error 7", "give 1 0: noted", "ready: 1", "give 0 0: noted", "ready: 0", "done 1: error 7", "done 0: noted", "ready: 1 3")
}

// P10.2 and P10.7: hours are noted of each board once, when its strokes are done, and between its bounds.
func TestHours(t *testing.T) {
	play(t, suite(), "hours 0 3: error 7", "give 1 1: noted", "done 1: noted", "hours 0 3: error 7", "give 2 0: noted", "hours 0 3: error 7", "done 2: noted", "hours 2 3: error 7", "hours 9999 3: error 7", "hours 0 2: error 7", "hours 0 5: error 7", "hours 0 9999: error 7", "hours 1 2: error 7", "hours 0 4: noted", "hours 0 4: error 7", "hours 0 3: error 7", "undo: noted", "hours 0 3: noted", "hours 0 4: error 7")
	// a board without strokes is done
	bare := with(suite(), func(s *api.DaybookSuite) {
		s.Bench.Boards, s.Prices.Boards = append(s.Bench.Boards, 0), append(s.Prices.Boards, api.PriceBoard{Hours: span(0, 6)})
	})
	play(t, bare, "hours 2 7: error 7", "hours 0 3: error 7", "hours 2 0: noted", "hours 2 0: error 7", "hours 3 0: error 7", "deal 2: noted", "owes 0: error 7")
}

// P10.2 and P10.7: one tariff is agreed.
func TestDeal(t *testing.T) {
	play(t, suite(), "deal 3: error 7", "deal 9999: error 7", "deal 2: noted", "deal 2: error 7", "deal 0: error 7", "undo: noted", "deal 0: noted", "deal 1: error 7")
}

// painted returns the lines of a script after which all strokes are done, and hours noted.
func painted(more ...string) []string {
	return append(strings.Split("give 0 0: noted,give 1 1: noted,give 2 0: noted,give 3 1: noted,done 0: noted,done 1: noted,done 2: noted,done 3: noted,hours 0 4: noted,hours 1 2: noted", ","), more...)
}

// P10.2, P10.3 and P10.7: owners pay what they owe when all is known, in as many parts as they want.
func TestPay(t *testing.T) {
	play(t, suite(), painted("owes 0: error 7", "pay 0 1: error 7", "deal 2: noted", "owes 0: 16", "owes 1: 6", "owes 2: error 2", "pay 2 1: error 7", "pay 9999 1: error 7", "pay 0 0: error 7", "pay 0 17: error 7", "pay 0 9999: error 7", "pay 0 10: noted", "paid 0: 10", "paid 1: 0", "pay 0 7: error 7", "pay 0 6: noted", "paid 0: 16", "pay 0 1: error 7", "pay 1 7: error 7", "pay 1 6: noted", "paid 1: 6", "owes 0: 16", "undo: noted", "paid 1: 0", "paid 0: 16", "pay 1 1: noted")...)
	// a tariff, but hours of one board alone
	play(t, suite(), "deal 2: noted", "owes 0: error 7", "give 1 1: noted", "give 2 0: noted", "done 1: noted", "done 2: noted", "hours 0 3: noted", "owes 0: error 7", "pay 0 1: error 7", "give 0 0: noted", "give 3 1: noted", "done 0: noted", "done 3: noted", "hours 1 2: noted", "owes 0: 12", "pay 0 13: error 7", "pay 0 12: noted")
	// who owes nothing does not pay
	free := with(suite(), func(s *api.DaybookSuite) { s.Prices.Offs[0] = 100 })
	play(t, free, painted("deal 2: noted", "owes 0: 0", "pay 0 1: error 7", "pay 0 0: error 7", "paid 0: 0", "owes 1: 6")...)
}

// P10.2 and P10.4: the front can be as wide as layer 1 lets it be, and as narrow as the name.
func TestFront(t *testing.T) {
	play(t, suite(), "front 0: error 7", "front 1: error 7", "front 401: error 7", "front 9999: error 7", "front 18: error 7", "set: 2 9", "front 400: noted", "set: 1 10", "front 40: noted", "set: 1 3", "front 39: noted", "set: 2 10", "front 21: noted", "set: 2 9", "front 19: noted", "set: 2 4", "undo: noted", "set: 2 9", "undo: noted", "undo: noted", "set: 1 3", "undo: noted", "set: 1 10", "undo: noted", "set: 2 9", "undo: error 7")
}

// P10.2, P10.3 and P10.8: an undo takes back the last entry that stands, and is one itself.
func TestUndo(t *testing.T) {
	play(t, suite(), "undo: error 7", "fill 0 1: noted", "fill 1 2: noted", "fill 2 3: noted", "stands: 0 1 2", "undo: noted", "stands: 0 1", "stock 2: 5", "undo: noted", "stands: 0", "stock 1: 5", "fill 1 4: noted", "stands: 0 5", "undo: noted", "stands: 0", "undo: noted", "stands: nothing", "stock 0: 5", "undo: error 7", "stands: nothing", "coat: noted", "stands: 8", "laid: 1", "undo: noted", "laid: 0", "undo: error 7")
}

// P10.2: an entry that does not go, or is taken back, is in the way of no other one.
func TestUndoneIsAsIfItWereNot(t *testing.T) {
	play(t, suite(), "deal 0: noted", "undo: noted", "deal 1: noted", "give 1 0: noted", "undo: noted", "give 1 1: noted", "coat: noted", "undo: noted", "dry 0 3 3: noted", "plan: 0 3 6", "coat: noted", "wait 3: noted", "coat: noted", "spot 1: noted", "undo: noted", "stands: 2 5 8 9 10 11")
}

// P10.2: after as many entries as can be there are no more, whatever they are, but those that are not formed; what stands does not matter.
func TestManyEntries(t *testing.T) {
	d := opened(t, suite())
	for i := range api.DaybookEntries {
		x := entry("fill", 0, 1)
		if i%3 == 2 {
			x = entry("undo")
		}
		if e := d.Enter(x); e != api.OK {
			t.Fatal(i, e)
		}
	}
	for i, x := range []api.DaybookEntry{entry("fill", 0, 1), entry("fill", 3, 1), entry("undo"), entry("coat"), entry("wait", 0)} {
		if e := d.Enter(x); e != api.ErrLong {
			t.Error(i, e)
		}
	}
	for i, x := range unformed() {
		if e := d.Enter(x); e != api.ErrArg {
			t.Error(i, x, e)
		}
	}
	if answer, e := d.Ask(question("stock", 0)); e != api.OK || !slices.Equal(answer, l(13)) {
		t.Error(answer, e)
	}
	if answer, e := d.Ask(question("stands")); e != api.OK || !slices.Equal(answer, l(0, 3, 6, 9, 12, 15, 18, 21)) {
		t.Error(answer, e)
	}
	// those that did not go are not entries
	d = opened(t, suite())
	for range 100 {
		if e := d.Enter(entry("fill", 3, 1)); e != api.ErrRule {
			t.Fatal(e)
		}
	}
	if e := d.Enter(entry("fill", 0, 1)); e != api.OK {
		t.Error(e)
	}
}

// unformed returns entries that are not formed.
func unformed() []api.DaybookEntry {
	bad := []api.DaybookEntry{{}, {Kind: -1}, {Kind: 14}, {Kind: 14, Numbers: l(0)}, {Kind: math.MinInt}, {Kind: math.MaxInt, Numbers: l(1)}, {Numbers: l(1)}}
	counts := []struct {
		word        string
		least, most int
	}{{"wait", 1, 1}, {"coat", 0, 0}, {"dry", 3, 3}, {"spot", 1, 5}, {"mix", 1, 4}, {"fill", 2, 2}, {"give", 2, 2}, {"done", 1, 1}, {"hours", 2, 2}, {"deal", 1, 1}, {"pay", 2, 2}, {"front", 1, 1}, {"undo", 0, 0}}
	for _, x := range counts {
		for count := range 8 {
			if count < x.least || count > x.most {
				bad = append(bad, entry(x.word, make([]int, count)...))
			}
		}
		for at := range x.most {
			for _, number := range l(-1, 10000, math.MinInt, math.MaxInt) {
				numbers := slices.Repeat(l(1), x.most)
				numbers[at] = number
				bad = append(bad, entry(x.word, numbers...))
			}
		}
		bad = append(bad, entry(x.word, make([]int, 100000)...))
	}
	return bad
}

// P10.2 and P10.9: entries that are not formed are neither made nor written.
func TestUnformed(t *testing.T) {
	d := opened(t, suite())
	for i, x := range unformed() {
		if e := d.Enter(x); e != api.ErrArg {
			t.Error(i, x, e)
		}
		if line, e := daybook.Write(x); e != api.ErrArg || line != "" {
			t.Error(i, x, line, e)
		}
	}
	if journal, e := d.Journal(); e != api.OK || journal != "" {
		t.Error(journal, e)
	}
}

// P10.3: questions that there are not, with other numbers, and of what there is not.
func TestBadQuestions(t *testing.T) {
	bad := []api.DaybookQuestion{{}, {Kind: -1}, {Kind: 17}, {Kind: 17, Numbers: l(0)}, {Kind: math.MinInt}, {Kind: math.MaxInt}, {Numbers: l(0)}}
	for _, x := range []struct {
		word        string
		least, most int
	}{{"day", 0, 0}, {"set", 0, 0}, {"plan", 0, 0}, {"laid", 0, 0}, {"order", 0, 0}, {"before", 2, 2}, {"stock", 1, 1}, {"word", 3, 3}, {"hand", 1, 1}, {"ready", 0, 0}, {"ends", 0, 0}, {"best", 0, 0}, {"owes", 1, 1}, {"paid", 1, 1}, {"same", 2, 2}, {"stands", 0, 0}} {
		for count := range 7 {
			if count < x.least || count > x.most {
				bad = append(bad, question(x.word, l(0, 1, 2, 3, 4, 5)[:count]...))
			}
		}
		for _, number := range l(-1, 4, 10000, math.MinInt, math.MaxInt) {
			if x.most > 0 {
				bad = append(bad, question(x.word, slices.Repeat(l(number), x.most)...))
			}
		}
	}
	bad = append(bad, question("before", 0, 4), question("before", 4, 0), question("before", 1, 1), question("before", -1, 0), question("stock", 3), question("hand", 4), question("owes", 2), question("paid", 2), question("same", 0, 3), question("same", 3, 0), question("same", 2, 2), question("word", 0, 0, 0), question("word", 5, 4, 0), question("word", 1, 1, -1), question("word", 1, 1, math.MaxInt), question("word", 1, 1), question("word", 1, 1, 0, 0))
	// also when all is known
	for _, d := range []*daybook.Desk{opened(t, suite()), play(t, suite(), painted("deal 0: noted")...)} {
		for i, q := range bad {
			if answer, e := d.Ask(q); e != api.ErrArg || len(answer) > 0 {
				t.Error(i, q, answer, e)
			}
		}
	}
}

// P10.1 to P10.3 and P10.10: a desk that is nil, and one that was not opened, do nothing, whatever the arguments.
func TestNilDesks(t *testing.T) {
	for i, d := range []*daybook.Desk{nil, {}, new(daybook.Desk)} {
		for _, x := range []api.DaybookEntry{entry("undo"), entry("fill", 0, 1), {}} {
			if e := d.Enter(x); e != api.ErrNil {
				t.Error(i, x, e)
			}
		}
		for _, q := range []api.DaybookQuestion{question("day"), question("stock", 0), {}} {
			if answer, e := d.Ask(q); e != api.ErrNil || len(answer) > 0 {
				t.Error(i, q, answer, e)
			}
		}
		if journal, e := d.Journal(); e != api.ErrNil || journal != "" {
			t.Error(i, journal, e)
		}
	}
}
