package coat_test

import (
	"slices"
	"strings"
	"testing"

	"mahlstick/api"
	"mahlstick/coat"
	"mahlstick/lines"
)

// oneText is the text of a sheet of the chapter.
const oneText = "day 1 2 yes\ncoat 1 3\nend 104\n"

// sealed returns a text with some lines, and with their check.
func sealed(body ...string) string { return lines.Seal(body, 181) }

// resealed returns a text with another word in the place of one, and with the check of its lines.
func resealed(text, word, other string) string {
	all := strings.Split(strings.Replace(text, word, other, 1), "\n")
	return sealed(all[:len(all)-2]...)
}

// P3.8: the example of the chapter, and a text with all kinds of lines.
func TestPrint(t *testing.T) {
	if text := sealed("day 1 2 yes", "coat 1 3"); text != oneText {
		t.Fatal(text)
	}
	for i, x := range []struct {
		s    api.CoatSheet
		text string
	}{
		{one(), oneText},
		{a(), sealed("day 6 8 yes", "day 4 6 no", "day 8 10 yes", "day 2 4 yes", "day 6 6 no", "day 5 9 yes", "day 8 12 yes", "day 4 4 no", "coat 9 20", "coat 10 20", "coat 8 30")},
		{with(one(), func(s *api.CoatSheet) { s.Dry[0], s.Work = span(0, 24), nil }), sealed("day 0 24 no", "coat 1 3")},
		{largest(), sealed(append(slices.Repeat([]string{"day 24 24 yes"}, 12), slices.Repeat([]string{"coat 288 400"}, 5)...)...)},
	} {
		if text, err := coat.Print(x.s); err != api.OK || text != x.text {
			t.Errorf("%d: %q %v", i, text, err)
		}
		if s, err := coat.Read(x.text); err != api.OK || !sameSheet(s, x.s) {
			t.Error(i, s, err)
		}
	}
}

// someSheets returns sheets of all kinds.
func someSheets(n int) []api.CoatSheet {
	roll := dice(7)
	all := []api.CoatSheet{a(), b(), c(), e(), one(), idle(), largest()}
	for range n {
		all = append(all, roll.large())
	}
	return all
}

// P3.8 and P0.11: what was written is read as what was written.
func TestReadWhatWasPrinted(t *testing.T) {
	for _, s := range someSheets(2000) {
		text, err := coat.Print(s)
		if err != api.OK || len(text) > api.CoatText {
			t.Fatal(s, text, err)
		}
		if again, err := coat.Read(text); err != api.OK || !sameSheet(s, again) {
			t.Fatal(s, text, again, err)
		}
	}
}

// P3.8: one digit that was changed is noticed.
func TestChangedDigits(t *testing.T) {
	for _, s := range someSheets(50) {
		text, _ := coat.Print(s)
		for i := range text {
			if text[i] < '0' || text[i] > '9' {
				continue
			}
			for _, digit := range strings.Replace("0123456789", text[i:i+1], "", 1) {
				wrong := text[:i] + string(digit) + text[i+1:]
				if got, err := coat.Read(wrong); err != api.ErrText || !sameSheet(got, api.CoatSheet{}) {
					t.Fatalf("%q %v %v", wrong, got, err)
				}
			}
		}
	}
}

// unread checks the error of Read, with which nothing else is returned.
func unread(t *testing.T, want api.Errno, texts ...string) {
	t.Helper()
	for i, text := range texts {
		if s, err := coat.Read(text); err != want || !sameSheet(s, api.CoatSheet{}) {
			t.Errorf("%d: %q %v %v", i, text, s, err)
		}
	}
}

// P3.8: strings that have no lines as a text has them.
func TestReadLines(t *testing.T) {
	day, layer := "day 1 2 yes", "coat 1 1"
	if s, err := coat.Read(sealed(day, "day 3 4 no", day, layer, "coat 1 2")); err != api.OK || !slices.Equal(s.Work, []int{0, 2}) || len(s.Dry) != 3 || len(s.Coats) != 2 {
		t.Error(s, err)
	}
	unread(t, api.ErrText,
		"", "\n", "end 000", "end 00\n", "end\n", "end 001\n", "end 000\n\n", "day 1 2 yes\n", oneText[1:], oneText+"\n", " "+oneText, oneText+" ", oneText+oneText, strings.TrimSuffix(oneText, "\n"),
		strings.ReplaceAll(oneText, "\n", "\r\n"), strings.ReplaceAll(oneText, "\n", " "), strings.Replace(oneText, "104", "105", 1), strings.Replace(oneText, "104", "285", 1), strings.Replace(oneText, "104", "0104", 1), strings.Replace(oneText, "end 104", "end  104", 1), strings.Replace(oneText, "end 104\n", "", 1), strings.Replace(oneText, "end", "End", 1),
		sealed(layer, day), sealed(day, layer, day), sealed(day, layer, day, layer), sealed(day, layer, layer, day), sealed("", day, layer), sealed(day, "", layer), sealed(day, layer, ""), sealed(day, "end 000", layer), sealed(day, layer, "coats 1 1"), sealed(day, layer, "end"),
	)
}

// P3.8: lines with words that are not as a text has them, though the check is right.
func TestReadWords(t *testing.T) {
	text := sealed("day 1 20 yes", "day 3 4 no", "coat 10 300")
	for _, x := range [][2]string{
		{"day", "Day"}, {"day", "days"}, {"day", "coat"}, {"day 1 20 yes", "day 1 20"}, {"day 1 20 yes", "day 1 yes"}, {"day 1 20 yes", "day 1 20 yes no"}, {"day 1 20 yes", "day 1 2 20 yes"}, {"day 1", "day  1"}, {"day 1", " day 1"}, {"yes", "yes "}, {"day 1", "day\t1"},
		{"yes", "Yes"}, {"yes", "y"}, {"yes", "1"}, {"yes", ""}, {"yes", "true"}, {"yes", "maybe"}, {"yes", "yesno"}, {"no", "nO"}, {"no", "none"}, {"no", "-"}, {"no", "0"},
		{"20", "020"}, {"20", "00"}, {"20", "-20"}, {"20", "+20"}, {"20", "1000"}, {"20", "0000"}, {"20", "2x"}, {"20", "x"}, {"20", "2.1"}, {"20", "0x1"}, {"20", "1_0"}, {"20", "1,0"}, {"20", "٣"}, {"20", "2\xff"}, {"20", "-"}, {"20", ""},
		{"coat 10 300", "coat 10"}, {"coat 10 300", "coat 10 300 1"}, {"coat 10 300", "coat 10 300 yes"}, {"coat 10 300", "coat"}, {"coat 10", "coat 010"}, {"300", "3000"}, {"300", "-300"}, {"300", "yes"}, {"coat", "Coat"}, {"coat", "layer"},
	} {
		if wrong := resealed(text, x[0], x[1]); wrong == text {
			t.Error(x)
		} else {
			unread(t, api.ErrText, wrong)
		}
	}
	if s, err := coat.Read(text); err != api.OK || !slices.Equal(s.Work, []int{0}) {
		t.Error(s, err)
	}
}

// P3.8: a text has its form with any numbers and lines, but its sheet may not be as defined.
func TestReadSheets(t *testing.T) {
	day, layer := "day 1 2 yes", "coat 1 1"
	unread(t, api.ErrArg,
		"end 000\n", sealed(day), sealed(layer), sealed(day, day), sealed(layer, layer), sealed(append(slices.Repeat([]string{day}, 13), layer)...), sealed(append([]string{day}, slices.Repeat([]string{layer}, 6)...)...),
		resealed(oneText, "1 2", "3 2"), resealed(oneText, "1 2", "1 25"), resealed(oneText, "1 2", "1 999"), resealed(oneText, "coat 1", "coat 0"), resealed(oneText, "coat 1", "coat 4"), resealed(oneText, "coat 1 3", "coat 289 400"), resealed(oneText, "1 3", "1 401"), resealed(oneText, "1 3", "1 0"),
	)
}

// filled returns a text of so many bytes, with more coats than there can be, all of them as a text has them.
func filled(bytes int) string {
	rest := bytes - len("day 0 0 no\n") - len("end 000\n")
	body := append([]string{"day 0 0 no"}, slices.Repeat([]string{"coat 0 0"}, rest/9)...)
	// numbers with more digits
	for i := range rest % 9 {
		body[1+i] = "coat 10 0"
	}
	return sealed(body...)
}

// P3.8: a string may have as many bytes as a text at most, and no more.
func TestReadLong(t *testing.T) {
	for bytes := 250; bytes < 270; bytes++ {
		text := filled(bytes)
		if len(text) != bytes {
			t.Fatal(bytes, len(text))
		}
		want := api.ErrArg
		if bytes > 260 {
			want = api.ErrLong
		}
		unread(t, want, text)
	}
	unread(t, api.ErrLong, strings.Repeat("x", 261), strings.Repeat("\n", 5000), oneText+strings.Repeat(" ", 261-len(oneText)))
	unread(t, api.ErrText, strings.Repeat("x", 260), strings.Repeat("\xff", 260), oneText+strings.Repeat(" ", 260-len(oneText)))
}
