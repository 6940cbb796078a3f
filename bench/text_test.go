package bench_test

import (
	"slices"
	"strings"
	"testing"

	"mahlstick/api"
	"mahlstick/bench"
	"mahlstick/lines"
)

// oneText is the text of the chapter.
const oneText = "bench 0\nboard 0\nstraight 0 1 1 -\nend 175\n"

// sealed returns a text with some lines, and with their check.
func sealed(body ...string) string { return lines.Seal(body, 197) }

// needy returns a bench with lists of needs, and needyText its text.
func needy() api.BenchBook {
	return of(3, l(60, 7), round(1, 2, 6), straight(0, 1, 3, 0), round(1, 4, 4, 0, 1), straight(0, 1, 1, 1))
}

func needyText() string {
	return sealed("bench 3", "board 60", "board 7", "round 1 2 6 -", "straight 0 1 3 0", "round 1 4 4 0,1", "straight 0 1 1 1")
}

// P6.6: the example of the chapter, and benches with the fewest and the most lines.
func TestPrint(t *testing.T) {
	if text := sealed("bench 0", "board 0", "straight 0 1 1 -"); text != oneText {
		t.Fatal(text)
	}
	for i, x := range []struct {
		b    api.BenchBook
		text string
	}{
		{one(), oneText},
		{needy(), needyText()},
		{b(), sealed("bench 1", "board 5", "board 6", "round 1 2 2 -", "straight 0 2 3 -", "round 0 1 2 1", "straight 1 1 3 0")},
		{of(0, l(10), round(0, 1, 6)), sealed("bench 0", "board 10", "round 0 1 6 -")},
		{largest(), sealed("bench 3", "board 60", "board 60", "board 60", "straight 2 6 6 -", "straight 2 6 6 0", "straight 2 6 6 0,1", "straight 2 6 6 0,1,2", "straight 2 6 6 0,1,2,3", "straight 2 6 6 0,1,2,3,4")},
	} {
		if text, e := bench.Print(x.b); e != api.OK || text != x.text {
			t.Errorf("%d: %q %v", i, text, e)
		}
		if again, e := bench.Read(x.text); e != api.OK || !sameBench(again, x.b) {
			t.Error(i, again, e)
		}
	}
}

// P6.6 and P0.11: what was written is read as what was written.
func TestReadWhatWasPrinted(t *testing.T) {
	roll := dice(13)
	for i := range 2000 {
		x := roll.any()
		if i == 0 {
			x = largest()
		}
		text, e := bench.Print(x)
		if e != api.OK || len(text) > api.BenchText {
			t.Fatal(x, text, e)
		}
		if again, e := bench.Read(text); e != api.OK || !sameBench(x, again) {
			t.Fatal(x, text, again, e)
		}
	}
}

// P6.6: one digit that was changed is noticed.
func TestChangedDigits(t *testing.T) {
	roll := dice(14)
	for i := range 200 {
		x := roll.any()
		if i == 0 {
			x = largest()
		}
		text, _ := bench.Print(x)
		for i := range text {
			if text[i] < '0' || text[i] > '9' {
				continue
			}
			for _, digit := range strings.Replace("0123456789", text[i:i+1], "", 1) {
				unread(t, api.ErrText, text[:i]+string(digit)+text[i+1:])
			}
		}
	}
}

// unread checks the error of Read, with which nothing else is returned.
func unread(t *testing.T, want api.Errno, texts ...string) {
	t.Helper()
	for i, text := range texts {
		if x, e := bench.Read(text); e != want || !sameBench(x, api.BenchBook{}) {
			t.Errorf("%d: %q %v %v", i, text, x, e)
		}
	}
}

// P6.6: strings that have no lines as a text has them.
func TestReadLines(t *testing.T) {
	first, board, stroke, other := "bench 0", "board 0", "straight 0 1 1 -", "round 0 1 1 -"
	unread(t, api.ErrText,
		"", "\n", "end 000", "end 000\n", "end 00\n", "end\n", "end 001\n", "end 000\n\n", "bench 0\n", "bench 0\nboard 0\nstraight 0 1 1 -\n", oneText[1:], oneText+"\n", " "+oneText, oneText+" ", oneText+oneText, strings.TrimSuffix(oneText, "\n"),
		strings.ReplaceAll(oneText, "\n", "\r\n"), strings.ReplaceAll(oneText, "\n", " "), strings.Replace(oneText, "175", "176", 1), strings.Replace(oneText, "175", "372", 1), strings.Replace(oneText, "175", "0175", 1), strings.Replace(oneText, "end 175", "end  175", 1), strings.Replace(oneText, "end", "End", 1),
		sealed(board), sealed(stroke), sealed(other), sealed(board, stroke), sealed(board, first, stroke), sealed(stroke, first), sealed(first, first), sealed(first, first, board, stroke), sealed(first, board, first, stroke), sealed(first, board, stroke, first), sealed(first, board, stroke, board), sealed(first, board, other, board), sealed(first, stroke, board), sealed(first, other, board, stroke), sealed(first, board, stroke, other, board, stroke),
		sealed("", first, board, stroke), sealed(first, "", board, stroke), sealed(first, board, "", stroke), sealed(first, board, stroke, ""), sealed(first, board, "end 000", stroke), sealed(first, board, stroke, "stroke 0 1 1 -"), sealed(first, board, stroke, "end"),
	)
}

// P6.6: lines with words that are not as a text has them, though the check is right.
func TestReadWords(t *testing.T) {
	board, stroke := "board 0", "straight 0 1 1 -"
	for _, first := range []string{"Bench 0", "benches 0", "board 0", "bench", "bench ", "bench 0 ", " bench 0", "bench  0", "bench\t0", "bench 0 1", "bench one", "bench 00", "bench 01", "bench 100", "bench -1", "bench +1", "bench -", "bench 0,", "bench ٣", "bench \xff"} {
		unread(t, api.ErrText, sealed(first, board, stroke), sealed(first))
	}
	for _, bad := range []string{"Board 0", "boards 0", "board", "board ", "board 0 ", " board 0", "board  0", "board 0 0", "board 00", "board 07", "board 100", "board -1", "board +1", "board -", "board 1,2", "board x"} {
		unread(t, api.ErrText, sealed("bench 0", bad, stroke), sealed("bench 0", board, bad, stroke), sealed("bench 0", bad))
	}
	for _, word := range []string{"straight", "round"} {
		for _, bad := range []string{"", " ", " 0", " 0 1", " 0 1 1", " 0 1 1 ", " 0 1 1  -", " 0 1 1 - ", " 0 1 1 - -", "  0 1 1 -", " 0  1 1 -", " 0 1 1 0 1", " 0 1 1 0, 1", " 00 1 1 -", " 0 01 1 -", " 0 1 01 -", " 0 1 1 00", " 0 1 1 01", " 100 1 1 -", " 0 100 1 -", " 0 1 100 -", " 0 1 1 100", " 0 1 1 0,100", " -1 1 1 -", " 0 -1 1 -", " 0 1 +1 -", " 0 1 1 -1", " 0 1 1 --", " 0 1 1 ,", " 0 1 1 0,", " 0 1 1 ,0", " 0 1 1 0,,1", " 0 1 1 0;1", " 0 1 1 0,-", " - 1 1 -", " 0 - 1 -", " 0 1 - -", " 0 1,1 1 -", " x 1 1 -", " 0 x 1 -", " 0 1 x -", " 0 1 1 x", " 0 1 1 \xff", "s 0 1 1 -", "\t0 1 1 -"} {
			unread(t, api.ErrText, sealed("bench 0", board, word+bad), sealed("bench 0", board, stroke, word+bad), sealed("bench 0", board, word+bad, stroke))
		}
	}
	for _, word := range []string{"Straight", "Round", "strait", "stroke", "roun", "rounds", "board", "bench", " round"} {
		unread(t, api.ErrText, sealed("bench 0", board, word+" 0 1 1 -"), sealed("bench 0", board, stroke, word+" 0 1 1 -"))
	}
}

// P6.6: a text has its form with any numbers, lines and needs, but its bench may not be as defined.
func TestReadBenches(t *testing.T) {
	first, board, stroke := "bench 0", "board 0", "straight 0 1 1 -"
	unread(t, api.ErrArg,
		sealed(first), sealed(first, board), sealed(first, stroke), sealed(first, "round 0 1 1 -"), sealed("bench 4", board, stroke), sealed("bench 99", board, stroke), sealed("bench 10"),
		sealed(first, "board 61", stroke), sealed(first, "board 99", stroke), sealed(first, board, board, board, board, stroke),
		sealed(first, board, "straight 1 1 1 -"), sealed(first, board, "round 99 1 1 -"), sealed(first, board, "straight 0 0 1 -"), sealed(first, board, "straight 0 2 1 -"), sealed(first, board, "straight 0 1 7 -"), sealed(first, board, "straight 0 99 99 -"), sealed(first, board, "straight 0 1 1 0"), sealed(first, board, stroke, "round 0 1 1 1"), sealed(first, board, stroke, "round 0 1 1 0,0"), sealed(first, board, stroke, stroke, "straight 0 1 1 1,0"), sealed(first, board, stroke, "straight 0 1 1 99"), sealed(first, board, stroke, "straight 0 1 1 0,10,20,30,40,50,60"),
		sealed(append(linesOf(first, board), slices.Repeat([]string{stroke}, 7)...)...),
	)
	for i, body := range [][]string{{first, board, stroke}, {first, board, "round 0 1 6 -"}, {"bench 3", "board 60", board, board, "round 2 6 6 -"}, append(linesOf(first, board), slices.Repeat([]string{"round 0 1 1 -", stroke}, 3)...)} {
		if x, e := bench.Read(sealed(body...)); e != api.OK || len(x.Boards)+len(x.Strokes) != len(body)-1 {
			t.Error(i, x, e)
		}
	}
}

// linesOf returns the list of some lines.
func linesOf(all ...string) []string { return all }

// filled returns a text of so many bytes, with a stroke that needs more than it can.
func filled(bytes int) string {
	rest := bytes - len("bench 0\n") - len("board 0\n") - len("straight 0 1 1 0\n") - len("end 000\n")
	needs := "0" + strings.Repeat(",0", (rest-rest%2*3)/2) + strings.Repeat(",10", rest%2)
	return sealed("bench 0", "board 0", "straight 0 1 1 "+needs)
}

// P6.6: a string may have as many bytes as a text at most, and no more.
func TestReadLong(t *testing.T) {
	for bytes := 170; bytes < 190; bytes++ {
		text := filled(bytes)
		if len(text) != bytes {
			t.Fatal(bytes, len(text))
		}
		want := api.ErrArg
		if bytes > 180 {
			want = api.ErrLong
		}
		unread(t, want, text)
	}
	unread(t, api.ErrLong, strings.Repeat("x", 181), strings.Repeat("\n", 5000), oneText+strings.Repeat(" ", 181-len(oneText)))
	unread(t, api.ErrText, strings.Repeat("x", 180), strings.Repeat("\xff", 180), oneText+strings.Repeat(" ", 180-len(oneText)))
}
