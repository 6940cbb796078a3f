package letter_test

import (
	"strconv"
	"strings"
	"testing"

	"mahlstick/api"
	"mahlstick/letter"
)

// one is the text of a sheet of the chapter.
const one = "front 1 1\nspaces 0 0 0 0 1\nsign 1\nword no 0 -\nend 098\n"

// sealed returns lines with a line end that has their check.
func sealed(lines ...string) string {
	sum := 0
	for i, line := range lines {
		for j, b := range []byte(line) {
			sum += int(b) * (i + 1) * (j + 1)
		}
	}
	check := strconv.Itoa(1000 + sum%173)[1:]
	return strings.Join(append(lines, "end "+check), "\n") + "\n"
}

// changed returns a text with another word in the place of one, sealed anew.
func changed(text, word, other string) string {
	lines := strings.Split(strings.Replace(text, word, other, 1), "\n")
	return sealed(lines[:len(lines)-2]...)
}

// P1.8: the example of the chapter, and a text with all kinds of lines.
func TestPrint(t *testing.T) {
	for i, x := range []struct {
		s    api.LetterSheet
		text string
	}{
		{bar(1, 1, 1), one},
		{a(), sealed("front 21 2", "spaces 2 4 5 8 3", "sign 6", "sign 4", "sign 8", "pair 0 1 1 3", "pair 2 0 0 2", "word no 2,0,1 -", "word yes 0,2 1")},
		{cut(bar(400, 3, 6), 0, 1, 2, 5), sealed("front 400 3", "spaces 0 0 0 0 1", "sign 1", "word no 0,0,0,0,0,0 1,2,5")},
	} {
		if text, e := letter.Print(x.s); e != api.OK || text != x.text {
			t.Errorf("%d: %q %v", i, text, e)
		}
		if s, e := letter.Read(x.text); e != api.OK || !sameSheet(s, x.s) {
			t.Error(i, s, e)
		}
	}
}

// P1.8 and P0.11: what was written is read as what was written.
func TestReadWhatWasPrinted(t *testing.T) {
	for _, s := range append(sheets(500), a(), b(), c(), d(), largest()) {
		text, e := letter.Print(s)
		if e != api.OK || len(text) > api.LetterText {
			t.Fatal(s, text, e)
		}
		again, e := letter.Read(text)
		if e != api.OK || !sameSheet(s, again) {
			t.Fatal(s, text, again, e)
		}
	}
}

// P1.8: one digit that was changed is noticed.
func TestChangedDigits(t *testing.T) {
	for _, s := range append(sheets(30), a(), bar(1, 1, 1), largest()) {
		text, _ := letter.Print(s)
		for i := range text {
			for digit := byte('0'); digit <= '9'; digit++ {
				if text[i] < '0' || text[i] > '9' || text[i] == digit {
					continue
				}
				wrong := text[:i] + string(rune(digit)) + text[i+1:]
				if got, e := letter.Read(wrong); e != api.ErrText || !sameSheet(got, api.LetterSheet{}) {
					t.Fatalf("%q %v %v", wrong, got, e)
				}
			}
		}
	}
}

// read checks the error of Read, with which nothing else is returned.
func read(t *testing.T, want api.Errno, texts ...string) {
	t.Helper()
	for i, text := range texts {
		if s, e := letter.Read(text); e != want || !sameSheet(s, api.LetterSheet{}) {
			t.Errorf("%d: %q %v %v", i, text, s, e)
		}
	}
}

// P1.8: strings that have no lines as a text has them.
func TestReadLines(t *testing.T) {
	front, spaces, sign, pair, word := "front 1 1", "spaces 0 0 0 0 1", "sign 1", "pair 0 0 0 0", "word no 0 -"
	if s, e := letter.Read(sealed(front, spaces, sign, pair, word)); e != api.OK || len(s.Pairs) != 1 {
		t.Error(s, e)
	}
	read(t, api.ErrText,
		"", "\n", "end 000\n", "end\n", "front 1 1\n", one[1:], one+"\n", " "+one, one+" ", one+one, strings.TrimSuffix(one, "\n"),
		strings.Replace(one, "\n", "\r\n", -1), strings.Replace(one, "\n", " ", -1), strings.Replace(one, "end 098", "end 98", 1),
		strings.Replace(one, "end 098", "end  098", 1), strings.Replace(one, "end 098", "end 0098", 1), strings.Replace(one, "end 098", "end 271", 1),
		strings.Replace(one, "end 098", "End 098", 1), strings.Replace(one, "end 098\n", "", 1), strings.Replace(one, "098", "099", 1),
		sealed(), sealed(front), sealed(spaces), sealed(front, sign, word), sealed(spaces, sign, word),
		sealed(spaces, front, sign, word), sealed(front, front, spaces, sign, word), sealed(front, spaces, spaces, sign, word),
		sealed(sign, front, spaces, word), sealed(front, sign, spaces, word), sealed(front, spaces, word, sign),
		sealed(front, spaces, pair, sign, word), sealed(front, spaces, sign, word, pair), sealed(front, spaces, sign, word, front),
		sealed(front, spaces, sign, word, spaces), sealed(front, spaces, sign, word, ""), sealed(front, "", spaces, sign, word),
		sealed(front, spaces, sign, word, "end 000"), sealed(front, spaces, sign, word, "row 1"),
	)
}

// P1.8: lines with words that are not as a text has them, though the check is right.
func TestReadWords(t *testing.T) {
	text := sealed("front 21 2", "spaces 2 4 5 8 3", "sign 6", "pair 0 0 1 3", "word yes 0,0 1")
	for _, x := range [][2]string{
		{"front", "Front"}, {"front", "fronts"}, {"front 21 2", "front 21"}, {"front 21 2", "front 21 2 2"}, {"front 21 2", "front  21 2"}, {"front 21 2", "front 21 2 "}, {"front 21 2", "front\t21 2"},
		{"front 21", "front 021"}, {"front 21", "front -21"}, {"front 21", "front +21"}, {"front 21", "front 1000"}, {"front 21", "front 0000"}, {"front 21", "front 2x"}, {"front 21", "front x"}, {"front 21", "front 2.1"}, {"front 21", "front 0x1"}, {"front 21", "front 1_0"},
		{"front 21", "front ٣"}, {"front 21", "front 2\xff"}, {"front 21", "front 00"}, {"front 21", "front -"},
		{"spaces 2 4 5 8 3", "spaces 2 4 5 8"}, {"spaces 2 4 5 8 3", "spaces 2 4 5 8 3 3"}, {"spaces 2", "spaces a"}, {"spaces", "space"},
		{"sign 6", "sign"}, {"sign 6", "sign 6 6"}, {"sign 6", "sign 06"}, {"sign 6", "sign "}, {"sign 6", "sign 6,6"},
		{"pair 0 0 1 3", "pair 0 0 1"}, {"pair 0 0 1 3", "pair 0 0 1 3 3"}, {"pair 0", "pair 00"},
		{"yes 0,0 1", "yes 0,0"}, {"yes 0,0 1", "yes 0,0 1 1"}, {"yes", "Yes"}, {"yes", "maybe"}, {"yes", "1"}, {"yes", ""},
		{"0,0 1", "0,,0 1"}, {"0,0 1", "0,0, 1"}, {"0,0 1", ",0,0 1"}, {"0,0 1", "0,00 1"}, {"0,0 1", "0,- 1"}, {"0,0 1", "-,0 1"}, {"0,0 1", "0;0 1"}, {"0,0 1", "0,0 --"}, {"0,0 1", "0,0 "}, {"0,0 1", "0,0 01"}, {"0,0 1", "0,0 1,"}, {"0,0 1", "0,1000 1"}, {"0,0 1", "0, 0 1"}, {"0,0 1", "-- 1"}, {"0,0 1", "-1,0 1"},
	} {
		if wrong := changed(text, x[0], x[1]); wrong == text {
			t.Error(x)
		} else {
			read(t, api.ErrText, wrong)
		}
	}
	if s, e := letter.Read(text); e != api.OK || !s.Words[0].Free {
		t.Error(s, e)
	}
}

// P1.8: a text has its form with any numbers, lists and lines, but its sheet may not be as defined.
func TestReadSheets(t *testing.T) {
	front, spaces, sign, word := "front 1 1", "spaces 0 0 0 0 1", "sign 1", "word no 0 -"
	read(t, api.ErrArg,
		changed(one, "front 1", "front 0"), changed(one, "front 1", "front 999"), changed(one, "front 1 1", "front 1 0"), changed(one, "front 1 1", "front 1 999"),
		changed(one, "spaces 0 0", "spaces 1 0"), changed(one, "spaces 0 0 0 0 1", "spaces 0 0 0 0 0"), changed(one, "spaces 0 0 0 0", "spaces 999 999 999 999"),
		changed(one, "sign 1", "sign 0"), changed(one, "no 0", "no 1"), changed(one, "no 0", "yes 1"), changed(one, "0 -", "- -"), changed(one, "0 -", "0 1"), changed(one, "0 -", "- 1,2"), changed(one, "0 -", "0,0,0,0,0,0,0,0,0 -"), changed(one, "0 -", "0,0 1,1,999"),
		sealed(front, spaces), sealed(front, spaces, sign), sealed(front, spaces, word), sealed(front, spaces, sign, word, word, word, word, word),
		sealed(front, spaces, sign, sign, sign, sign, sign, sign, sign, word), sealed(front, spaces, sign, "pair 0 0 0 0", "pair 0 0 0 0", word),
		sealed(front, spaces, sign, "pair 0 1 0 0", word), sealed(front, spaces, "pair 0 0 0 0", word),
		sealed(front, spaces, sign, sign, "pair 1 0 0 0", "pair 0 0 0 0", word),
	)
}

// filled returns a text of so many bytes with a word that is too long, but no letter that is not as a text has it.
func filled(bytes int) string {
	text := func(front, more string) string {
		return sealed(front, "spaces 0 0 0 0 1", "sign 1", "word no 0"+more+" -")
	}
	front := "front 1 1"
	if (bytes-len(text(front, "")))%2 == 1 {
		front = "front 10 1"
	}
	return text(front, strings.Repeat(",0", (bytes-len(text(front, "")))/2))
}

// P1.8: a string may have as many bytes as a text at most, and no more.
func TestReadLong(t *testing.T) {
	if len(filled(320)) != 320 || len(filled(321)) != 321 {
		t.Fatal(len(filled(320)), len(filled(321)))
	}
	read(t, api.ErrArg, filled(319), filled(320))
	read(t, api.ErrLong, filled(321), filled(322), strings.Repeat("x", 321), strings.Repeat("\n", 5000), one+strings.Repeat(" ", 321-len(one)))
	read(t, api.ErrText, strings.Repeat("x", 320), strings.Repeat("\xff", 320), one+strings.Repeat(" ", 320-len(one)))
}
