package tint_test

import (
	"slices"
	"strings"
	"testing"

	"mahlstick/api"
	"mahlstick/lines"
	"mahlstick/tint"
)

// oneText is the text of the chapter.
const oneText = "board 1 2 3 0 0 1\nfade 0 0 0 0 0 0\ntin 1 1 2 2 3 3\nend 164\n"

// The lines of this text, but for the last one.
const (
	boardText = "board 1 2 3 0 0 1"
	fadeText  = "fade 0 0 0 0 0 0"
	tinText   = "tin 1 1 2 2 3 3"
)

// sealed returns a text with some lines, and with their check.
func sealed(body ...string) string { return lines.Seal(body, 199) }

// P7.8: the example of the chapter, and sheets with the fewest and the most lines.
func TestPrint(t *testing.T) {
	if text := sealed(boardText, fadeText, tinText); text != oneText {
		t.Fatal(text)
	}
	for i, x := range []struct {
		s    api.TintSheet
		text string
	}{
		{one(), oneText},
		{a(), sealed("board 60 40 20 5 5 5", "fade 1 2 1 1 0 0", "tin 80 82 20 20 0 2", "tin 20 22 60 60 40 40", "tin 50 50 10 12 30 30")},
		{d(), sealed("board 60 40 20 2 9 5", "fade 1 2 1 1 0 0", "tin 80 82 20 20 0 2", "tin 20 22 60 60 40 40", "tin 50 50 10 12 30 30")},
		{widest(), sealed("board 99 0 50 0 20 1", "fade 0 9 0 9 0 9", "tin 0 99 0 99 0 99", "tin 0 99 0 99 0 99", "tin 0 99 0 99 0 99", "tin 0 99 0 99 0 99")},
		{largest(), sealed(append([]string{"board 99 99 99 20 20 20", "fade 9 9 9 9 9 9"}, slices.Repeat([]string{"tin 99 99 99 99 99 99"}, 4)...)...)},
		{api.TintSheet{Old: [3]int{7, 8, 9}, Fade: three(1, 2, 3, 4, 5, 6), Years: span(10, 11), Off: 12, Tins: []api.TintTin{tin(13, 14, 15, 16, 17, 18)}}, sealed("board 7 8 9 10 11 12", "fade 1 2 3 4 5 6", "tin 13 14 15 16 17 18")},
	} {
		if text, e := tint.Print(x.s); e != api.OK || text != x.text {
			t.Errorf("%d: %q %v", i, text, e)
		}
		if again, e := tint.Read(x.text); e != api.OK || !sameSheet(again, x.s) {
			t.Error(i, again, e)
		}
	}
}

// someSheets returns sheets of all kinds.
func someSheets(seed dice, n int) []api.TintSheet {
	all := []api.TintSheet{a(), b(), c(), d(), one(), largest(), widest(), pure(), apart()}
	for range n {
		all = append(all, seed.any())
	}
	return all
}

// P7.8 and P0.11: what was written is read as what was written.
func TestReadWhatWasPrinted(t *testing.T) {
	for _, s := range someSheets(13, 2000) {
		text, e := tint.Print(s)
		if e != api.OK || len(text) > api.TintText {
			t.Fatal(s, text, e)
		}
		if again, e := tint.Read(text); e != api.OK || !sameSheet(s, again) {
			t.Fatal(s, text, again, e)
		}
	}
}

// P7.8: one digit that was changed is noticed.
func TestChangedDigits(t *testing.T) {
	for _, s := range someSheets(14, 100) {
		text, _ := tint.Print(s)
		for i := range text {
			if text[i] < '0' || text[i] > '9' {
				continue
			}
			for _, digit := range strings.Replace("0123456789", text[i:i+1], "", 1) {
				unread(t, api.ErrText, text[:i]+string(digit)+text[i+1:])
			}
		}
	}
}

// unread checks the error of Read, with which nothing else is returned.
func unread(t *testing.T, want api.Errno, texts ...string) {
	t.Helper()
	for i, text := range texts {
		if s, e := tint.Read(text); e != want || !sameSheet(s, api.TintSheet{}) {
			t.Errorf("%d: %q %v %v", i, text, s, e)
		}
	}
}

// P7.8: strings that have no lines as a text has them.
func TestReadLines(t *testing.T) {
	unread(t, api.ErrText,
		"", "\n", "end 000", "end 000\n", "end 00\n", "end\n", "end 001\n", "end 000\n\n", boardText+"\n", boardText+"\n"+fadeText+"\n"+tinText+"\n", oneText[1:], oneText+"\n", " "+oneText, oneText+" ", oneText+oneText, strings.TrimSuffix(oneText, "\n"),
		strings.ReplaceAll(oneText, "\n", "\r\n"), strings.ReplaceAll(oneText, "\n", " "), strings.Replace(oneText, "164", "165", 1), strings.Replace(oneText, "164", "363", 1), strings.Replace(oneText, "164", "0164", 1), strings.Replace(oneText, "end 164", "end  164", 1), strings.Replace(oneText, "end", "End", 1),
		sealed(boardText), sealed(fadeText), sealed(tinText), sealed(boardText, tinText), sealed(fadeText, tinText), sealed(fadeText, boardText, tinText), sealed(boardText, tinText, fadeText), sealed(tinText, boardText, fadeText), sealed(boardText, boardText, fadeText, tinText), sealed(boardText, fadeText, fadeText, tinText), sealed(boardText, fadeText, boardText, tinText), sealed(boardText, fadeText, tinText, boardText), sealed(boardText, fadeText, tinText, fadeText), sealed(boardText, fadeText, tinText, fadeText, tinText), sealed(boardText, boardText), sealed(fadeText, fadeText), sealed(boardText, fadeText, boardText, fadeText, tinText), sealed(fadeText, boardText),
		sealed("", boardText, fadeText, tinText), sealed(boardText, "", fadeText, tinText), sealed(boardText, fadeText, "", tinText), sealed(boardText, fadeText, tinText, ""), sealed(boardText, fadeText, "end 000", tinText), sealed(boardText, fadeText, tinText, "end"), sealed(boardText, fadeText, tinText, "tins 1 1 2 2 3 3"),
	)
}

// P7.8: lines with words that are not as a text has them, though the check is right.
func TestReadWords(t *testing.T) {
	for _, numbers := range []string{"", " ", " 1", " 1 1 1 1 1", " 1 1 1 1 1 ", " 1 1 1 1 1 1 ", " 1 1 1 1 1 1 1", "  1 1 1 1 1 1", " 1 1 1  1 1 1", "\t1 1 1 1 1 1", " 1 1 1 1 1,1", " 1 1 1 1 1 1,1", " 1 1 1 1 1 -", " - 1 1 1 1 1", "s 1 1 1 1 1 1", " 1 1 1\xff 1 1 1"} {
		unread(t, api.ErrText, sealed("board"+numbers, fadeText, tinText), sealed(boardText, "fade"+numbers, tinText), sealed(boardText, fadeText, "tin"+numbers), sealed(boardText, fadeText, tinText, "tin"+numbers), sealed("board"+numbers, fadeText), sealed(boardText, "fade"+numbers))
	}
	for _, bad := range []string{"", "00", "01", "100", "000", "-1", "+1", "x", "1x", "0x1", "1.0", "1_0", "٣", "\xff", "yes", "1 1"} {
		for place := range 6 {
			numbers := strings.Split("1 1 1 1 1 1", " ")
			numbers[place] = bad
			line := " " + strings.Join(numbers, " ")
			unread(t, api.ErrText, sealed("board"+line, fadeText, tinText), sealed(boardText, "fade"+line, tinText), sealed(boardText, fadeText, "tin"+line), sealed(boardText, fadeText, tinText, "tin"+line))
		}
	}
	for _, x := range [][2]string{{"board", "Board"}, {"board", "boards"}, {"board", " board"}, {"board", "fade"}, {"board", "tin"}, {"fade", "Fade"}, {"fade", "faded"}, {"fade", "fad"}, {"fade", "tin"}, {"tin", "Tin"}, {"tin", "tint"}, {"tin", "ti"}, {"tin", "board"}, {"tin", "end"}, {"tin", ""}} {
		body := strings.Split(strings.Replace(oneText, x[0], x[1], 1), "\n")
		unread(t, api.ErrText, sealed(body[:3]...))
	}
}

// P7.8: a text has its form with any numbers and lines, but its sheet may not be as defined.
func TestReadSheets(t *testing.T) {
	unread(t, api.ErrArg,
		sealed(boardText, fadeText), sealed(append([]string{boardText, fadeText}, slices.Repeat([]string{tinText}, 5)...)...),
		sealed("board 1 2 3 1 0 1", fadeText, tinText), sealed("board 1 2 3 0 21 1", fadeText, tinText), sealed("board 1 2 3 99 99 1", fadeText, tinText), sealed("board 1 2 3 0 0 0", fadeText, tinText), sealed("board 1 2 3 0 0 21", fadeText, tinText), sealed("board 1 2 3 0 0 99", fadeText, tinText), sealed("board 1 2 3 0 0 0", fadeText),
		sealed(boardText, "fade 1 0 0 0 0 0", tinText), sealed(boardText, "fade 0 0 0 10 0 0", tinText), sealed(boardText, "fade 0 0 0 0 99 99", tinText),
		sealed(boardText, fadeText, "tin 1 0 2 2 3 3"), sealed(boardText, fadeText, "tin 1 1 2 2 99 98"), sealed(boardText, fadeText, tinText, "tin 1 1 2 1 3 3"),
	)
	for tins := 1; tins <= 4; tins++ {
		body := append([]string{"board 99 0 10 0 20 20", "fade 0 9 9 9 0 0"}, slices.Repeat([]string{"tin 0 99 99 99 0 0"}, tins)...)
		if s, e := tint.Read(sealed(body...)); e != api.OK || len(s.Tins) != tins || s.Old != [3]int{99, 0, 10} || s.Fade != three(0, 9, 9, 9, 0, 0) || s.Years != span(0, 20) || s.Off != 20 {
			t.Error(tins, s, e)
		}
	}
}

// filled returns a text of so many bytes, with more tins than there can be.
func filled(bytes int) string {
	least := sealed(append([]string{boardText, fadeText}, slices.Repeat([]string{tinText}, 6)...)...)
	// some numbers have a digit more
	longer := bytes - len(least)
	numbers := append(slices.Repeat([]string{"99"}, longer), slices.Repeat([]string{"9"}, 36-longer)...)
	body := []string{boardText, fadeText}
	for i := range 6 {
		body = append(body, "tin "+strings.Join(numbers[6*i:6*i+6], " "))
	}
	return sealed(body...)
}

// P7.8: a string may have as many bytes as a text at most, and no more.
func TestReadLong(t *testing.T) {
	for bytes := 150; bytes < 170; bytes++ {
		text := filled(bytes)
		if len(text) != bytes {
			t.Fatal(bytes, len(text), text)
		}
		want := api.ErrArg
		if bytes > 160 {
			want = api.ErrLong
		}
		unread(t, want, text)
	}
	unread(t, api.ErrLong, strings.Repeat("x", 161), strings.Repeat("\n", 5000), oneText+strings.Repeat(" ", 161-len(oneText)))
	unread(t, api.ErrText, strings.Repeat("x", 160), strings.Repeat("\xff", 160), oneText+strings.Repeat(" ", 160-len(oneText)))
}
