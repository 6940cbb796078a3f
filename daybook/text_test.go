package daybook_test

import (
	"math"
	"slices"
	"strings"
	"testing"

	"mahlstick/api"
	"mahlstick/daybook"
)

func sameEntry(a, b api.DaybookEntry) bool {
	return a.Kind == b.Kind && slices.Equal(a.Numbers, b.Numbers)
}

// P10.9: entries of all kinds have their lines.
func TestLines(t *testing.T) {
	for i, x := range []struct {
		x    api.DaybookEntry
		line string
	}{
		{entry("wait", 1), "wait 1"}, {entry("coat"), "coat"}, {entry("dry", 3, 0, 4), "dry 3 0 4"}, {entry("spot", 2), "spot 2"}, {entry("spot", 5, 4, 3, 2, 1), "spot 5 4 3 2 1"}, {entry("mix", 8), "mix 8"}, {entry("mix", 1, 0, 10, 100), "mix 1 0 10 100"}, {entry("fill", 0, 9), "fill 0 9"}, {entry("give", 3, 1), "give 3 1"}, {entry("done", 0), "done 0"}, {entry("hours", 1, 2), "hours 1 2"}, {entry("deal", 1), "deal 1"}, {entry("pay", 0, 13), "pay 0 13"}, {entry("front", 400), "front 400"}, {entry("undo"), "undo"},
		// an entry that is formed need not go
		{entry("wait", 0), "wait 0"}, {entry("wait", 9999), "wait 9999"}, {entry("spot", 9999, 9999, 9999, 9999, 9999), "spot 9999 9999 9999 9999 9999"}, {entry("spot", 0, 0), "spot 0 0"}, {entry("mix", 0, 0, 0), "mix 0 0 0"}, {entry("dry", 1000, 7, 5), "dry 1000 7 5"},
		{api.DaybookEntry{Kind: api.DaybookCoat, Numbers: []int{}}, "coat"},
	} {
		if line, e := daybook.Write(x.x); e != api.OK || line != x.line {
			t.Errorf("%d: %q %v", i, line, e)
		}
		if again, e := daybook.Parse(x.line); e != api.OK || !sameEntry(again, x.x) {
			t.Error(i, again, e)
		}
	}
}

// noLines returns lines that are not those of an entry that is formed, nor of a question.
func noLines() []string {
	return []string{
		"", " ", "x", "coat ", " coat", "coat 0", "Coat", "COAT", "coats", "coa", "coat\r", "coat\t", "coat\x00", "\xff", "coat\xff", "undo 0", "undo 1", "undo undo", "coat coat",
		"wait", "wait ", "wait  1", "wait 1 ", " wait 1", "wait 1 1", "wait\t1", "wait 1\r", "wait 01", "wait 00", "wait 0001", "wait -1", "wait +1", "wait -0", "wait 10000", "wait 99999", "wait 100000000000000000000000", "wait x", "wait 1x", "wait 1.0", "wait 1e1", "wait 0x1", "wait 1,1", "wait -", "wait \u0661", "wait \u00b2", "waits 1", "wait1", "1 wait", "1",
		"dry 1 2", "dry 1 2 3 4", "dry 1  2", "spot", "spot 1 2 3 4 5 0", "spot 1 2 3 4 05", "mix", "mix 1 1 1 1 1", "fill 1", "fill 1 2 3", "give 1", "give 1 0 0", "done", "done 1 1", "hours 1", "hours 1 1 1", "deal", "deal 0 0", "pay 0", "pay 0 1 1", "front", "front 2 2", "front 12345", "noted", "nothing", "error 4", "end 000", "left 0",
		strings.Repeat("x", 40), "spot" + strings.Repeat(" 1", 18), "wait " + strings.Repeat("1", 35),
	}
}

// noQuestions returns lines that have the word of a question, but are those of none.
func noQuestions() []string {
	return []string{"day 0", "day ", " day", "set 1", "plan 0", "laid 0", "order 0", "before", "before 0", "before 0 1 2", "before 0 01", "stock", "stock 0 0", "stock 10000", "stock -1", "word", "word 1 1 0 0 0", "word 1 1 -1", "hand", "hand 0 1", "hand 00", "ready 0", "ends 0", "best 0", "owes", "owes 0 0", "owes x", "paid", "paid 0 0", "same", "same 0", "same 0 1 2", "stands 0", "stands\r", "Day"}
}

// P10.9: lines that are not those of an entry that is formed, and such that are too long.
func TestNoLines(t *testing.T) {
	for i, line := range slices.Concat(noLines(), noQuestions(), topics(), []string{"coat\n", "wait 1\n", "\ncoat", "stock 0", "before 0 1", "same 0 1", "word 1 1 0", "coat\ncoat"}) {
		if x, e := daybook.Parse(line); e != api.ErrText || !sameEntry(x, api.DaybookEntry{}) {
			t.Errorf("%d: %q %v %v", i, line, x, e)
		}
	}
	for i, line := range []string{strings.Repeat("x", 41), "coat" + strings.Repeat(" ", 37), "spot 1 1 1 1 1" + strings.Repeat(" 1", 14), "wait " + strings.Repeat("0", 36), strings.Repeat("coat\n", 9), strings.Repeat("1", 1<<20)} {
		if x, e := daybook.Parse(line); e != api.ErrLong || !sameEntry(x, api.DaybookEntry{}) {
			t.Errorf("%d: %q %v %v", i, line, x, e)
		}
	}
}

// formed returns any entry that is formed.
func (d *dice) formed() api.DaybookEntry {
	least := l(1, 0, 3, 1, 1, 2, 2, 1, 2, 1, 2, 1, 0)
	most := l(1, 0, 3, 5, 4, 2, 2, 1, 2, 1, 2, 1, 0)
	kind := d.upTo(12)
	x := api.DaybookEntry{Kind: api.DaybookKind(kind + 1)}
	for range least[kind] + d.upTo(most[kind]-least[kind]) {
		x.Numbers = append(x.Numbers, min(9999, d.upTo(1<<d.upTo(14))))
	}
	return x
}

// P10.9 and P0.11: what was written is parsed as what was written, and what was parsed is written the same.
func TestParseWhatWasWritten(t *testing.T) {
	roll := dice(1)
	for range 5000 {
		x := roll.formed()
		line, e := daybook.Write(x)
		if e != api.OK || len(line) > api.DaybookLine {
			t.Fatal(x, line, e)
		}
		if again, e := daybook.Parse(line); e != api.OK || !sameEntry(again, x) {
			t.Fatal(x, line, again, e)
		}
		// a line with a byte that was changed, is more, or less
		at := roll.upTo(len(line) - 1)
		other := line[:at] + string(" 0129wapy\x00\xff"[roll.upTo(10)]) + line[at+roll.upTo(1):]
		if roll.upTo(3) == 0 {
			other = line[:at] + line[at+1:]
		}
		y, e := daybook.Parse(other)
		if e != api.OK && (e != api.ErrText || !sameEntry(y, api.DaybookEntry{})) {
			t.Fatal(other, y, e)
		}
		if again, f := daybook.Write(y); e == api.OK && (f != api.OK || again != other) {
			t.Fatal(other, y, again, f)
		}
	}
}

// journalOf returns the journal of a desk.
func journalOf(t *testing.T, d *daybook.Desk) string {
	t.Helper()
	journal, e := d.Journal()
	if e != api.OK {
		t.Fatal(e)
	}
	return journal
}

// P10.10: the journal has all entries that were made, in order, also those that were taken back, and no others.
func TestJournal(t *testing.T) {
	if journal := journalOf(t, opened(t, suite())); journal != "" {
		t.Errorf("%q", journal)
	}
	d := play(t, suite(), "coat: noted", "coat: error 7", "day: 0", "spot 2 0: noted", "undo: noted", "fill 0 99: error 7", "wait 2: noted", "dry 3 0 4: noted", "mix 1 1 0: noted", "ends: error 7")
	if journal := journalOf(t, d); journal != "coat\nspot 2 0\nundo\nwait 2\ndry 3 0 4\nmix 1 1 0\n" {
		t.Errorf("%q", journal)
	}
}

// P10.10: journals with which a desk cannot be played, and the line with which it cannot.
func TestBadJournals(t *testing.T) {
	fills := strings.Repeat("fill 0 1\n", 24)
	for i, x := range []struct {
		journal string
		number  int
		e       api.Errno
	}{
		{"coat\ncoat\n", 1, api.ErrRule}, {"wait 0\n", 0, api.ErrRule}, {"undo\n", 0, api.ErrRule}, {"coat\nundo\nundo\ncoat\n", 2, api.ErrRule}, {"coat\nwait 2\nwait 1\nx\n", 2, api.ErrRule},
		{"\n", 0, api.ErrText}, {"coat\n\n", 1, api.ErrText}, {"\ncoat\n", 0, api.ErrText}, {"coat", 0, api.ErrText}, {"x", 0, api.ErrText}, {"coat\nwait 2", 1, api.ErrText}, {"coat\ncoat", 1, api.ErrText}, {"coat\nx", 1, api.ErrText}, {"coat\r\n", 0, api.ErrText}, {"coat\nday\n", 1, api.ErrText}, {"coat\nstock 0\n", 1, api.ErrText}, {"coat\nnoted\n", 1, api.ErrText}, {"x\ncoat\ncoat\n", 0, api.ErrText}, {"coat\nwait 2\nwait 01\nwait 1\n", 2, api.ErrText}, {"coat\nspot\n", 1, api.ErrText},
		// a line that is too long, and one that is not
		{"coat\n" + strings.Repeat("x", 41) + "\n", 1, api.ErrText}, {"coat\nwait 2\n" + strings.Repeat("x", 40) + "\n", 2, api.ErrText}, {strings.Repeat("x", 1000), 0, api.ErrText}, {strings.Repeat("x", 999) + "\n", 0, api.ErrText},
		// an entry too many, which need not go, but must be formed and have its line feed
		{fills + "fill 0 1\n", 24, api.ErrLong}, {fills + "coat\n", 24, api.ErrLong}, {fills + "wait 0\nx\n", 24, api.ErrLong}, {fills + "undo\n", 24, api.ErrLong}, {fills + "x\n", 24, api.ErrText}, {fills + "coat", 24, api.ErrText}, {fills + "\n", 24, api.ErrText}, {fills + "wait 10000\n", 24, api.ErrText},
		// a string that is too long
		{strings.Repeat("x", 1001), 0, api.ErrLong}, {strings.Repeat("coat\n", 201), 0, api.ErrLong}, {strings.Repeat("\n", 1<<20), 0, api.ErrLong}, {strings.Repeat("coat\n", 200), 1, api.ErrRule}, {strings.Repeat("\n", 1000), 0, api.ErrText},
	} {
		if d, number, e := daybook.Replay(suite(), x.journal); e != x.e || d != nil || number != x.number {
			t.Errorf("%d: %q %v %v %v", i, x.journal, d, number, e)
		}
	}
	if d, number, e := daybook.Replay(suite(), fills); e != api.OK || number != -1 || journalOf(t, d) != fills {
		t.Error(number, e)
	}
}

// P10.11: lines that say nothing are answered by an error, and those after them as ever.
func TestConsoleLines(t *testing.T) {
	for i, line := range slices.Concat(noLines(), noQuestions()) {
		if answers, e := daybook.Console(suite(), "coat\n"+line+"\nlaid\n"); e != api.OK || answers != "noted\nerror 4\n1\n" {
			t.Errorf("%d: %q %q %v", i, line, answers, e)
		}
	}
	long := strings.Repeat("x", 41)
	for i, x := range [][2]string{
		{"", ""}, {"\n", "error 4\n"}, {"\n\nday\n\n", "error 4\nerror 4\n0\nerror 4\n"}, {"day\n", "0\n"},
		{long + "\n", "error 3\n"}, {long[1:] + "\n", "error 4\n"}, {"coat" + strings.Repeat(" ", 37) + "\nlaid\n", "error 3\n0\n"}, {strings.Repeat("9", 999) + "\n", "error 3\n"},
		{"day\r\n", "error 4\n"}, {strings.Repeat("day\n", 250), strings.Repeat("0\n", 250)},
		// there are words of questions with as many numbers, but there is nothing of these
		{"word 1 1\nword 1 1 0 0\nword 0 0 0\nword 9999 9999 9999 9999\nword 1 1 0\n", "error 2\nerror 2\nerror 2\nerror 2\n3\n"}, {"stock 3\nstock 9999\nhand 4\nowes 2\npaid 2\nsame 1 1\nsame 0 3\nbefore 0 0\nbefore 4 0\n", strings.Repeat("error 2\n", 9)}, {"owes 0\nends\n", "error 7\nerror 7\n"},
		{"hand 0\nready\nstands\n", "nothing\nnothing\nnothing\n"}, {"undo\n", "error 7\n"},
		// after as many entries as can be
		{strings.Repeat("fill 0 1\n", 24) + "fill 0 1\nundo\nwait 0\nwait\nday 1\nstock 0\n", strings.Repeat("noted\n", 24) + "error 3\nerror 3\nerror 3\nerror 4\nerror 4\n29\n"},
	} {
		if answers, e := daybook.Console(suite(), x[0]); e != api.OK || answers != x[1] {
			t.Errorf("%d: %q %q %v", i, x[0], answers, e)
		}
	}
}

// P10.11: strings that are no scripts, or are too long.
func TestNoScripts(t *testing.T) {
	for i, x := range []struct {
		script string
		e      api.Errno
	}{
		{"day", api.ErrText}, {"x", api.ErrText}, {"coat\nday", api.ErrText}, {"day\n ", api.ErrText}, {"day\r", api.ErrText}, {strings.Repeat("x", 1000), api.ErrText}, {strings.Repeat("day\n", 249) + "plan", api.ErrText},
		{strings.Repeat("day\n", 250) + "\n", api.ErrLong}, {strings.Repeat("x", 1001), api.ErrLong}, {strings.Repeat("day\n", 1<<18), api.ErrLong},
	} {
		if answers, e := daybook.Console(suite(), x.script); e != x.e || answers != "" {
			t.Errorf("%d: %q %q %v", i, x.script, answers, e)
		}
	}
}

// P10.9: numbers are written as they are, and none that a line cannot have.
func TestNumbersOfLines(t *testing.T) {
	for number := range 10001 {
		line, e := daybook.Write(entry("wait", number))
		if number > api.DaybookNumber {
			if e != api.ErrArg || line != "" {
				t.Error(line, e)
			}
			continue
		}
		x, f := daybook.Parse(line)
		if e != api.OK || f != api.OK || line != "wait "+decimals(l(number))[0] || !sameEntry(x, entry("wait", number)) {
			t.Fatal(number, line, x, e, f)
		}
	}
	for _, number := range l(-1, 10000, math.MaxInt, math.MinInt) {
		if line, e := daybook.Write(entry("fill", 0, number)); e != api.ErrArg || line != "" {
			t.Error(number, line, e)
		}
	}
}
