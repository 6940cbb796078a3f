package sight_test

import (
	"slices"
	"strconv"
	"strings"
	"testing"

	"mahlstick/api"
	"mahlstick/sight"
)

// one is the text of a street of the chapter.
const one = "sight 1 1 1 1 1 1\nboard 0\nletter 1 1 1 0\nend 019\n"

// sealed returns lines with a line end that has their check.
func sealed(lines ...string) string {
	sum := 0
	for i, line := range lines {
		for j, b := range []byte(line) {
			sum += int(b) * (i + 1) * (j + 1)
		}
	}
	check := strconv.Itoa(1000 + sum%179)[1:]
	return strings.Join(append(lines, "end "+check), "\n") + "\n"
}

// changed returns a text with another word in the place of one, sealed anew.
func changed(text, word, other string) string {
	lines := strings.Split(strings.Replace(text, word, other, 1), "\n")
	return sealed(lines[:len(lines)-2]...)
}

// P2.7: the example of the chapter, and a text with all kinds of lines.
func TestPrint(t *testing.T) {
	for i, x := range []struct {
		s    api.SightStreet
		text string
	}{
		{least(), one},
		{s(), sealed("sight 20 6 4 6 50 100", "board 10", "letter 6 4 1 1", "letter 8 5 2 0", "board 0", "letter 10 10 2 0", "block sure 12 13 2 3", "block perhaps 5 6 4 5")},
		{short(), sealed("sight 4 2 1 1 100 100", "board 0", "letter 3 2 1 0")},
	} {
		if text, e := sight.Print(x.s); e != api.OK || text != x.text {
			t.Errorf("%d: %q %v", i, text, e)
		}
		if y, e := sight.Read(x.text); e != api.OK || !sameStreet(y, x.s) {
			t.Error(i, y, e)
		}
	}
}

// someStreets returns streets of all kinds.
func someStreets(n int) []api.SightStreet {
	roll := dice(8)
	all := []api.SightStreet{s(), short(), least(), largest()}
	for range n {
		all = append(all, roll.street())
	}
	return all
}

// P2.7 and P0.11: what was written is read as what was written.
func TestReadWhatWasPrinted(t *testing.T) {
	for _, x := range someStreets(1000) {
		text, e := sight.Print(x)
		if e != api.OK || len(text) > api.SightText {
			t.Fatal(x, text, e)
		}
		if again, e := sight.Read(text); e != api.OK || !sameStreet(x, again) {
			t.Fatal(x, text, again, e)
		}
	}
}

// P2.7: one digit that was changed is noticed.
func TestChangedDigits(t *testing.T) {
	for _, x := range someStreets(30) {
		text, _ := sight.Print(x)
		for i := range text {
			for digit := byte('0'); digit <= '9'; digit++ {
				if text[i] < '0' || text[i] > '9' || text[i] == digit {
					continue
				}
				wrong := text[:i] + string(rune(digit)) + text[i+1:]
				if got, e := sight.Read(wrong); e != api.ErrText || !sameStreet(got, api.SightStreet{}) {
					t.Fatalf("%q %v %v", wrong, got, e)
				}
			}
		}
	}
}

// read checks the error of Read, with which nothing else is returned.
func read(t *testing.T, want api.Errno, texts ...string) {
	t.Helper()
	for i, text := range texts {
		if x, e := sight.Read(text); e != want || !sameStreet(x, api.SightStreet{}) {
			t.Errorf("%d: %q %v %v", i, text, x, e)
		}
	}
}

// P2.7: strings that have no lines as a text has them.
func TestReadLines(t *testing.T) {
	first, board, letter, block := "sight 1 1 1 1 1 1", "board 0", "letter 1 1 1 0", "block sure 0 1 1 1"
	if x, e := sight.Read(sealed(first, board, letter, board, letter, block, block)); e != api.OK || len(x.Boards) != 2 || len(x.Blocks) != 2 {
		t.Error(x, e)
	}
	read(t, api.ErrText,
		"", "\n", "end 000\n", "end\n", "sight 1 1 1 1 1 1\n", one[1:], one+"\n", " "+one, one+" ", one+one, strings.TrimSuffix(one, "\n"),
		strings.Replace(one, "\n", "\r\n", -1), strings.Replace(one, "\n", " ", -1), strings.Replace(one, "end 019", "end 19", 1),
		strings.Replace(one, "end 019", "end  019", 1), strings.Replace(one, "end 019", "end 0019", 1), strings.Replace(one, "end 019", "end 198", 1),
		strings.Replace(one, "end 019", "End 019", 1), strings.Replace(one, "end 019\n", "", 1), strings.Replace(one, "019", "020", 1),
		sealed(), sealed(board, letter), sealed(letter), sealed(block), sealed(board, first, letter), sealed(first, first, board, letter), sealed(first, board, letter, first), sealed(first, board, letter, block, first),
		sealed(first, letter), sealed(first, letter, board, letter), sealed(first, letter, block), sealed(first, block, letter), sealed(first, block, board, letter), sealed(first, board, block, letter),
		sealed(first, board, letter, block, board, letter), sealed(first, board, letter, block, letter), sealed(first, board, letter, block, board), sealed(first, board, letter, block, block, letter),
		sealed(first, board, letter, ""), sealed(first, "", board, letter), sealed(first, board, letter, "end 000"), sealed(first, board, letter, "word 1"), sealed("", first, board, letter),
	)
}

// P2.7: lines with words that are not as a text has them, though the check is right.
func TestReadWords(t *testing.T) {
	text := sealed("sight 20 6 4 6 50 100", "board 10", "letter 6 4 1 0", "block sure 12 13 2 3", "block perhaps 5 6 4 5")
	for _, x := range [][2]string{
		{"sight", "Sight"}, {"sight", "sights"}, {"sight 20 6 4 6 50 100", "sight 20 6 4 6 50"}, {"sight 20 6 4 6 50 100", "sight 20 6 4 6 50 100 1"}, {"sight 20", "sight  20"}, {"50 100", "50 100 "}, {"sight 20", "sight\t20"},
		{"sight 20", "sight 020"}, {"sight 20", "sight -20"}, {"sight 20", "sight +20"}, {"sight 20", "sight 1000"}, {"sight 20", "sight 0000"}, {"sight 20", "sight 2x"}, {"sight 20", "sight x"}, {"sight 20", "sight 2.1"}, {"sight 20", "sight 0x1"}, {"sight 20", "sight 1_0"}, {"sight 20", "sight 1,0"},
		{"sight 20", "sight ٣"}, {"sight 20", "sight 2\xff"}, {"sight 20", "sight 00"}, {"sight 20", "sight -"}, {"50 100", "50 1e2"},
		{"board 10", "board"}, {"board 10", "board "}, {"board 10", "board 10 1"}, {"board 10", "board 010"}, {"board 10", "boards 10"},
		{"letter 6 4 1 0", "letter 6 4 1"}, {"letter 6 4 1 0", "letter 6 4 1 0 0"}, {"letter 6", "letter 06"}, {"letter 6", "letter a"}, {"letter 6", "letter -6"}, {"letter", "Letter"},
		{"block sure 12 13 2 3", "block sure 12 13 2"}, {"block sure 12 13 2 3", "block sure 12 13 2 3 4"}, {"block sure", "block"}, {"block sure", "block Sure"}, {"block sure", "block maybe"}, {"block sure", "block yes"}, {"block sure", "block 1"}, {"block sure", "block "}, {"block sure", "block sure sure"},
		{"block perhaps", "block surely"}, {"block perhaps 5", "block perhaps 05"}, {"block perhaps 5", "block perhaps 5000"}, {"4 5\n", "4 x\n"},
	} {
		if wrong := changed(text, x[0], x[1]); wrong == text {
			t.Error(x)
		} else {
			read(t, api.ErrText, wrong)
		}
	}
	if x, e := sight.Read(text); e != api.OK || !x.Blocks[0].Sure || x.Blocks[1].Sure {
		t.Error(x, e)
	}
}

// P2.7: a text has its form with any numbers and lines, but its street may not be as defined.
func TestReadStreets(t *testing.T) {
	first, board, letter, block := "sight 1 1 1 1 1 1", "board 0", "letter 1 1 1 0", "block sure 0 1 1 1"
	read(t, api.ErrArg,
		changed(one, "sight 1", "sight 0"), changed(one, "sight 1", "sight 999"), changed(one, "sight 1 1", "sight 1 0"), changed(one, "sight 1 1 1", "sight 1 1 2"), changed(one, "1 1 1\nb", "1 1 0\nb"), changed(one, "1 1 1\nb", "1 0 1\nb"),
		changed(one, "board 0", "board 2"), changed(one, "letter 1", "letter 0"), changed(one, "letter 1", "letter 999"), changed(one, "1 1 1 0", "1 1 1 1"),
		sealed(first), sealed(first, board), sealed(first, block), sealed(first, board, block), sealed(first, board, board, letter), sealed(first, board, letter, board), sealed(first, board, letter, board, block),
		sealed(first, board, letter, board, letter, board, letter, board, letter), sealed(first, board, letter, letter, letter, letter, letter, letter), sealed(first, board, letter, block, block, block, block, block),
		sealed(first, board, letter, "block sure 1 0 1 1"), sealed(first, board, letter, "block perhaps 0 2 1 1"), sealed(first, board, letter, "block sure 0 1 0 1"), sealed(first, board, letter, "block sure 0 1 1 2"),
	)
}

// filled returns a text of so many bytes with more boards than there can be, all of them as a text has them.
func filled(bytes int) string {
	text := func(more, boards int) string {
		numbers := []string{"1", "1", "1", "1", "1", "1"}
		for i := range more {
			numbers[i%6] += "0"
		}
		return sealed(append([]string{"sight " + strings.Join(numbers, " ")}, slices.Repeat([]string{"board 0"}, boards)...)...)
	}
	missing := bytes - len(text(0, 0))
	return text(missing%8, missing/8)
}

// P2.7: a string may have as many bytes as a text at most, and no more.
func TestReadLong(t *testing.T) {
	for bytes := 440; bytes < 455; bytes++ {
		text := filled(bytes)
		if len(text) != bytes {
			t.Fatal(bytes, len(text))
		}
		want := api.ErrArg
		if bytes > 450 {
			want = api.ErrLong
		}
		read(t, want, text)
	}
	read(t, api.ErrLong, strings.Repeat("x", 451), strings.Repeat("\n", 5000), one+strings.Repeat(" ", 451-len(one)))
	read(t, api.ErrText, strings.Repeat("x", 450), strings.Repeat("\xff", 450), one+strings.Repeat(" ", 450-len(one)))
}
