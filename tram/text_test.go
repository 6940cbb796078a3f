package tram_test

import (
	"slices"
	"strings"
	"testing"

	"mahlstick/api"
	"mahlstick/letter"
	"mahlstick/lines"
	"mahlstick/tram"
)

// oneText is the text of the chapter, and nameText the part of it that is a text of layer 1.
const (
	nameText = "front 1 1\nspaces 0 0 0 0 1\nsign 1\nword no 0 -\nend 098\n"
	oneText  = "tram 1 1 1 0\ncell 1 2 no\nend 178\n" + nameText
)

// sealed returns a text with some lines before the name of the chapter's text, and with their check.
func sealed(body ...string) string { return lines.Seal(body, 223) + nameText }

// named returns a text with the lines of the chapter's text, and after them another part.
func named(name string) string {
	return lines.Seal([]string{"tram 1 1 1 0", "cell 1 2 no"}, 223) + name
}

// P9.8: the examples of the chapter, and sheets with the fewest and the most lines.
func TestPrint(t *testing.T) {
	if text := sealed("tram 1 1 1 0", "cell 1 2 no"); text != oneText || named(nameText) != oneText {
		t.Fatal(text)
	}
	name := func(s api.TramSheet) string {
		text, e := letter.Print(s.Name)
		if e != api.OK {
			t.Fatal(s, e)
		}
		return text
	}
	for i, x := range []struct {
		s    api.TramSheet
		text string
	}{
		{one(), oneText},
		{a(), lines.Seal([]string{"tram 6 5 2 1", "cell 2 3 no", "cell 2 2 no", "cell 1 2 yes", "cell 3 4 no", "cell 2 5 no", "cell 1 1 no"}, 223) + name(a())},
		{with(one(), func(s *api.TramSheet) { s.Cells[0], s.Reach, s.Turn = hidden(20, 20), 10, 9 }), sealed("tram 1 10 1 9", "cell 20 20 yes")},
		{largest(), lines.Seal(append(l2("tram 12 12 9 9"), slices.Repeat(l2("cell 20 20 yes"), 12)...), 223) + name(largest())},
	} {
		if text, e := tram.Print(x.s); e != api.OK || text != x.text {
			t.Errorf("%d: %q %v", i, text, e)
		}
		if again, e := tram.Read(x.text); e != api.OK || !sameSheet(again, x.s) {
			t.Error(i, again, e)
		}
	}
}

// l2 returns the list of some lines.
func l2(all ...string) []string { return all }

// P9.8 and P0.11: what was written is read as what was written, also if the name does not fit.
func TestReadWhatWasPrinted(t *testing.T) {
	roll := dice(16)
	for i := range 2000 {
		s := roll.any()
		if i == 0 {
			s = largest()
		}
		text, e := tram.Print(s)
		if e != api.OK || len(text) > api.TramText {
			t.Fatal(s, text, e)
		}
		if again, e := tram.Read(text); e != api.OK || !sameSheet(again, s) {
			t.Fatal(s, text, again, e)
		}
	}
}

// unread checks the error of Read, with which nothing else is returned.
func unread(t *testing.T, want api.Errno, texts ...string) {
	t.Helper()
	for i, text := range texts {
		if s, e := tram.Read(text); e != want || !sameSheet(s, api.TramSheet{}) {
			t.Errorf("%d: %q %v %v", i, text, s, e)
		}
	}
}

// P9.8: one digit that was changed is noticed, in both parts and in both checks.
func TestChangedDigits(t *testing.T) {
	roll := dice(17)
	for i := range 60 {
		s := roll.any()
		if i == 0 {
			s = largest()
		}
		text, _ := tram.Print(s)
		for at := range text {
			if text[at] < '0' || text[at] > '9' {
				continue
			}
			for _, digit := range strings.Replace("0123456789", text[at:at+1], "", 1) {
				unread(t, api.ErrText, text[:at]+string(digit)+text[at+1:])
			}
		}
	}
}

// P9.8: strings that have no lines as a text has them.
func TestReadLines(t *testing.T) {
	first, cell := "tram 1 1 1 0", "cell 1 2 no"
	own := strings.TrimSuffix(oneText, nameText)
	unread(t, api.ErrText,
		"", "\n", "end 000", "end 000\n", "\nend 000\n", "end\n", "end 000\n"+nameText, "\nend 000\n"+nameText, nameText, own, own+"\n", first+"\n"+cell+"\n", first+"\n"+cell+"\n"+nameText,
		oneText[1:], oneText+"\n", "\n"+oneText, " "+oneText, oneText+" ", oneText+oneText, own+oneText, own+own+nameText, oneText+nameText, nameText+own, own+"\n"+nameText, own+" "+nameText, strings.TrimSuffix(oneText, "\n"), strings.TrimSuffix(own, "\n")+nameText, strings.TrimSuffix(own, "\n"),
		strings.ReplaceAll(oneText, "\n", "\r\n"), strings.ReplaceAll(oneText, "\n", " "), strings.Replace(oneText, "178", "179", 1), strings.Replace(oneText, "178", "401", 1), strings.Replace(oneText, "178", "0178", 1), strings.Replace(oneText, "178", "", 1), strings.Replace(oneText, "178", "178 ", 1), strings.Replace(oneText, " 178", "", 1), strings.Replace(oneText, "end 178", "end  178", 1), strings.Replace(oneText, "end", "End", 1), strings.Replace(oneText, "end", " end", 1), strings.Replace(oneText, "end 178\n", "", 1), strings.Replace(oneText, "end 178\n", "end 178\nend 178\n", 1),
		sealed(), sealed(cell), sealed(cell, first), sealed(cell, cell), sealed(first, first), sealed(first, first, cell), sealed(first, cell, first), sealed(first, cell, cell, first),
		sealed("", first, cell), sealed(first, "", cell), sealed(first, cell, ""), sealed(first, "end 000", cell), sealed(first, cell, "end"), sealed(first, cell, "front 1 1"), sealed("front 1 1", cell), sealed(first, "sell 1 2 no"),
	)
}

// P9.8: lines with words that are not as a text has them, though the check is right.
func TestReadWords(t *testing.T) {
	cell := "cell 1 2 no"
	for _, bad := range []string{"Tram 1 1 1 0", "trams 1 1 1 0", "tra 1 1 1 0", "tram", "tram ", "tram 1 1 1", "tram 1 1 1 ", "tram 1 1 1 0 ", "tram 1 1 1 0 0", " tram 1 1 1 0", "tram  1 1 1 0", "tram\t1 1 1 0", "tram 01 1 1 0", "tram 1 01 1 0", "tram 1 1 01 0", "tram 1 1 1 00", "tram 100 1 1 0", "tram 1 100 1 0", "tram 1 1 100 0", "tram 1 1 1 100", "tram -1 1 1 0", "tram 1 +1 1 0", "tram 1 1 -1 0", "tram 1 1 1 -0", "tram x 1 1 0", "tram 1 x 1 0", "tram 1 1 - 0", "tram 1 1 1 -", "tram 1 1 1,1 0", "tram 1 1 1 no", "tram 1 ٣ 1 0", "tram 1 1 1 \xff"} {
		unread(t, api.ErrText, sealed(bad, cell), sealed(bad))
	}
	for _, bad := range []string{"Cell 1 2 no", "cells 1 2 no", "cel 1 2 no", "cell", "cell ", "cell 1 2", "cell 1 2 ", "cell 1 2 no ", "cell 1 2 no no", "cell 1 2 0 no", "cell 1 no", " cell 1 2 no", "cell  1 2 no", "cell 1  2 no", "cell 01 2 no", "cell 1 02 no", "cell 00 2 no", "cell 100 2 no", "cell 1 100 no", "cell -1 2 no", "cell 1 +2 no", "cell x 2 no", "cell 1 x no", "cell - 2 no", "cell 1,2 2 no", "cell 1 2 No", "cell 1 2 YES", "cell 1 2 yes,no", "cell 1 2 maybe", "cell 1 2 n", "cell 1 2 0", "cell 1 2 -", "cell no 1 2", "cell 1 2 \xff"} {
		unread(t, api.ErrText, sealed("tram 1 1 1 0", bad), sealed("tram 1 1 1 0", cell, bad), sealed("tram 1 1 1 0", bad, cell))
	}
}

// P9.8: what is after the line end must be a text of layer 1, and no longer than it can be.
func TestReadNames(t *testing.T) {
	long := func(letters int) string {
		return lines.Seal(l2("front 1 1", "spaces 0 0 0 0 1", "sign 1", "word no 0"+strings.Repeat(",0", letters-1)+" -"), 173)
	}
	// it has two bytes more for each letter
	most := (api.LetterText - len(long(1))) / 2
	if n := len(long(1 + most)); n > api.LetterText || n < api.LetterText-1 {
		t.Fatal(n)
	}
	unread(t, api.ErrText, named(""), named("\n"), named("end 000\n"), named(nameText[1:]), named(nameText+"\n"), named(" "+nameText), named(strings.Replace(nameText, "098", "099", 1)), named(strings.Replace(nameText, "sign 1", "sign 2", 1)), named(strings.TrimSuffix(nameText, "\n")), named(long(2+most)), named(long(20+most)), named(strings.Repeat("x", api.LetterText)), named(strings.Repeat("x", api.LetterText+1)), named(oneText))
	// a name that is not as defined has a text
	unread(t, api.ErrArg, named(long(7)), named(long(1+most)), named(lines.Seal(l2("front 0 1", "spaces 0 0 0 0 1", "sign 1", "word no 0 -"), 173)), named(lines.Seal(l2("front 1 1", "spaces 0 0 0 0 1"), 173)), named(lines.Seal(l2("front 999 999", "spaces 999 999 999 999 999", "sign 999", "pair 999 999 999 999", "word yes 999,999 999"), 173)))
	// but not if the lines before it have none
	unread(t, api.ErrText, strings.Replace(named(long(7)), "cell 1", "cell 2", 1), strings.TrimSuffix(sealed("cell 1 2 no"), nameText)+long(7))
	for letters := 1; letters <= 6; letters++ {
		wide := strings.TrimSuffix(oneText, nameText) + long(letters)
		if s, e := tram.Read(wide); e != api.OK || len(s.Name.Words[0].Signs) != letters {
			t.Error(letters, s, e)
		}
	}
}

// P9.8: a text has its form with any numbers of two digits and any cells, but its sheet may not be as defined.
func TestReadSheets(t *testing.T) {
	first, cell := "tram 1 1 1 0", "cell 1 2 no"
	unread(t, api.ErrArg,
		sealed(first), sealed("tram 0 1 1 0", cell), sealed("tram 2 1 1 0", cell), sealed("tram 99 1 1 0", cell), sealed("tram 1 0 1 0", cell), sealed("tram 1 13 1 0", cell), sealed("tram 1 99 1 0", cell), sealed("tram 1 1 0 0", cell), sealed("tram 1 1 10 0", cell), sealed("tram 1 1 99 0", cell), sealed("tram 1 1 1 10", cell), sealed("tram 1 1 1 99", cell), sealed("tram 99 99 99 99"),
		sealed(first, "cell 0 2 no"), sealed(first, "cell 0 0 yes"), sealed(first, "cell 2 1 no"), sealed(first, "cell 1 21 no"), sealed(first, "cell 21 21 yes"), sealed(first, "cell 99 99 no"), sealed(first, cell, "cell 0 1 no"),
		sealed(append(l2(first), slices.Repeat(l2(cell), 13)...)...), sealed(append(l2(first), slices.Repeat(l2(cell), 30)...)...),
	)
	for i, body := range [][]string{{first, cell}, {"tram 2 12 9 9", cell, "cell 20 20 yes"}, append(l2("tram 12 1 1 1"), slices.Repeat(l2(cell), 12)...)} {
		if s, e := tram.Read(sealed(body...)); e != api.OK || len(s.Cells) != len(body)-1 {
			t.Error(i, s, e)
		}
	}
}

// filled returns a text of so many bytes, with more cells than there can be.
func filled(bytes int) string {
	rest := bytes - len(sealed("tram 1 1 1 0"))
	// a line has 12 bytes, or 13
	longer := rest % 12
	body := append(l2("tram 1 1 1 0"), slices.Repeat(l2("cell 1 2 yes"), longer)...)
	return sealed(append(body, slices.Repeat(l2("cell 1 2 no"), rest/12-longer)...)...)
}

// P9.8: a string may have as many bytes as a text at most, and no more.
func TestReadLong(t *testing.T) {
	for bytes := 500; bytes < 560; bytes++ {
		text := filled(bytes)
		if len(text) != bytes {
			t.Fatal(bytes, len(text))
		}
		want := api.ErrArg
		if bytes > api.TramText {
			want = api.ErrLong
		}
		unread(t, want, text)
	}
	unread(t, api.ErrLong, strings.Repeat("x", 531), strings.Repeat("\n", 5000), oneText+strings.Repeat(" ", 531-len(oneText)))
	unread(t, api.ErrText, strings.Repeat("x", 530), strings.Repeat("\xff", 530), oneText+strings.Repeat(" ", 530-len(oneText)))
}
