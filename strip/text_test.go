package strip_test

import (
	"slices"
	"strings"
	"testing"

	"mahlstick/api"
	"mahlstick/lines"
	"mahlstick/strip"
)

// twoText is the text of a board of the chapter.
const twoText = "board 2\nspot 0 1\nend 140\n"

// sealed returns a text with some lines, and with their check.
func sealed(body ...string) string { return lines.Seal(body, 193) }

// P5.8: the example of the chapter, and boards with the fewest and the most lines.
func TestPrint(t *testing.T) {
	if text := sealed("board 2", "spot 0 1"); text != twoText {
		t.Fatal(text)
	}
	for i, x := range []struct {
		b    api.StripBoard
		text string
	}{
		{two(), twoText},
		{a(), sealed("board 4", "spot 0 1", "spot 2 1", "spot 2 3")},
		{b(), sealed("board 4", "spot 0 1", "spot 2 1", "spot 2 3", "spot 1 3 2")},
		{board(1), sealed("board 1")},
		{board(1, l(0)), sealed("board 1", "spot 0")},
		{largest(), sealed("board 6", "spot 5 4 3 2 1", "spot 5 4 3 2 1", "spot 5 4 3 2 1", "spot 5 4 3 2 1", "spot 5 4 3 2 1", "spot 5 4 3 2 1")},
	} {
		if text, e := strip.Print(x.b); e != api.OK || text != x.text {
			t.Errorf("%d: %q %v", i, text, e)
		}
		if again, e := strip.Read(x.text); e != api.OK || !sameBoard(again, x.b) {
			t.Error(i, again, e)
		}
	}
}

// P5.8 and P0.11: what was written is read as what was written.
func TestReadWhatWasPrinted(t *testing.T) {
	for _, x := range append(someBoards(16, 2000), largest(), ring(6)) {
		text, e := strip.Print(x)
		if e != api.OK || len(text) > api.StripText {
			t.Fatal(x, text, e)
		}
		if again, e := strip.Read(text); e != api.OK || !sameBoard(x, again) {
			t.Fatal(x, text, again, e)
		}
	}
}

// P5.8: one digit that was changed is noticed.
func TestChangedDigits(t *testing.T) {
	for _, x := range append(someBoards(17, 100), largest(), ring(6)) {
		text, _ := strip.Print(x)
		for i := range text {
			if text[i] < '0' || text[i] > '9' {
				continue
			}
			for _, digit := range strings.Replace("0123456789", text[i:i+1], "", 1) {
				unread(t, api.ErrText, text[:i]+string(digit)+text[i+1:])
			}
		}
	}
}

// unread checks the error of Read, with which nothing else is returned.
func unread(t *testing.T, want api.Errno, texts ...string) {
	t.Helper()
	for i, text := range texts {
		if x, e := strip.Read(text); e != want || !sameBoard(x, api.StripBoard{}) {
			t.Errorf("%d: %q %v %v", i, text, x, e)
		}
	}
}

// P5.8: strings that have no lines as a text has them.
func TestReadLines(t *testing.T) {
	first, spot := "board 2", "spot 0 1"
	unread(t, api.ErrText,
		"", "\n", "end 000", "end 000\n", "end 00\n", "end\n", "end 001\n", "end 000\n\n", "board 2\n", "board 2\nspot 0 1\n", twoText[1:], twoText+"\n", " "+twoText, twoText+" ", twoText+twoText, strings.TrimSuffix(twoText, "\n"),
		strings.ReplaceAll(twoText, "\n", "\r\n"), strings.ReplaceAll(twoText, "\n", " "), strings.Replace(twoText, "140", "141", 1), strings.Replace(twoText, "140", "333", 1), strings.Replace(twoText, "140", "0140", 1), strings.Replace(twoText, "end 140", "end  140", 1), strings.Replace(twoText, "end", "End", 1),
		sealed(spot), sealed(spot, first), sealed(spot, first, spot), sealed(first, first), sealed(first, spot, first), sealed(first, first, spot),
		sealed("", first, spot), sealed(first, "", spot), sealed(first, spot, ""), sealed(first, "end 000", spot), sealed(first, spot, "spots 0 1"), sealed(first, spot, "end"),
	)
}

// P5.8: lines with words that are not as a text has them, though the check is right.
func TestReadWords(t *testing.T) {
	for _, first := range []string{"Board 2", "boards 2", "spot 2", "board", "board ", "board 2 ", " board 2", "board  2", "board\t2", "board 2 1", "board two", "board 02", "board 002", "board 100", "board -2", "board +2", "board 2,", "board ٣", "board \xff", "board -"} {
		unread(t, api.ErrText, sealed(first, "spot 0 1"), sealed(first))
	}
	for _, spot := range []string{"Spot 0 1", "spots 0 1", "stop 0 1", "board 0 1", "spot0 1", "spot ", "spot  ", "spot 0 ", "spot 0 1 ", " spot 0 1", "spot  0 1", "spot 0  1", "spot\t0 1", "spot 0,1", "spot 0 one", "spot 00 1", "spot 0 01", "spot 0 100", "spot 0 -1", "spot 0 +1", "spot -", "spot 0 -", "spot 0 ٣", "spot 0 \xff", "spot 0 1 2 3 4 5 6 x"} {
		unread(t, api.ErrText, sealed("board 2", spot), sealed("board 2", "spot 0", spot), sealed("board 2", spot, "spot 0"))
	}
}

// P5.8: a text has its form with any numbers, lines and names, but its board may not be as defined.
func TestReadBoards(t *testing.T) {
	first, spot := "board 2", "spot 0 1"
	unread(t, api.ErrArg,
		sealed("board 0"), sealed("board 7"), sealed("board 99"), sealed("board 10", spot), sealed("board 1", spot), sealed("board 0", "spot"),
		sealed(first, "spot"), sealed(first, spot, "spot"), sealed(first, "spot", spot), sealed(first, "spot 0 2"), sealed(first, "spot 99"), sealed(first, "spot 10 1"), sealed(first, "spot 0 0"), sealed(first, "spot 0 1 0"),
		sealed("board 6", "spot 0 1 2 3 4 5"), sealed("board 6", "spot 0 1 2 3 4 5 6 7 8 9 10 11 12"), sealed(append([]string{first}, slices.Repeat([]string{spot}, 7)...)...), sealed(append([]string{first}, slices.Repeat([]string{"spot"}, 20)...)...),
	)
	for i, body := range [][]string{{first}, {first, spot}, {first, "spot 1"}, {"board 6", "spot 0 1 2 3 4"}, append([]string{first}, slices.Repeat([]string{spot}, 6)...)} {
		if x, e := strip.Read(sealed(body...)); e != api.OK || len(x.Spots) != len(body)-1 {
			t.Error(i, x, e)
		}
	}
}

// filled returns a text of so many bytes, with a spot that has more names than there can be.
func filled(bytes int) string {
	rest := bytes - len("board 6\n") - len("spot\n") - len("end 000\n")
	spot := "spot" + strings.Repeat(" 0", (rest-rest%2*3)/2) + strings.Repeat(" 10", rest%2)
	return sealed("board 6", spot)
}

// P5.8: a string may have as many bytes as a text at most, and no more.
func TestReadLong(t *testing.T) {
	for bytes := 120; bytes < 140; bytes++ {
		text := filled(bytes)
		if len(text) != bytes {
			t.Fatal(bytes, len(text))
		}
		want := api.ErrArg
		if bytes > 130 {
			want = api.ErrLong
		}
		unread(t, want, text)
	}
	unread(t, api.ErrLong, strings.Repeat("x", 131), strings.Repeat("\n", 5000), twoText+strings.Repeat(" ", 131-len(twoText)))
	unread(t, api.ErrText, strings.Repeat("x", 130), strings.Repeat("\xff", 130), twoText+strings.Repeat(" ", 130-len(twoText)))
}
