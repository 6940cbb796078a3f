package leaf_test

import (
	"slices"
	"strings"
	"testing"

	"mahlstick/api"
	"mahlstick/leaf"
	"mahlstick/lines"
)

// oneText is the text of a job of the chapter.
const oneText = "leaf 1 1 1 0\nground 0 0 0 0\npiece 1 1 0\nend 166\n"

// sealed returns a text with some lines, and with their check.
func sealed(body ...string) string { return lines.Seal(body, 191) }

// resealed returns a text with another word in the place of one, and with the check of its lines.
func resealed(text, word, other string) string {
	all := strings.Split(strings.Replace(text, word, other, 1), "\n")
	return sealed(all[:len(all)-2]...)
}

// P4.7: the example of the chapter, and texts with all kinds of lines.
func TestPrint(t *testing.T) {
	if text := sealed("leaf 1 1 1 0", "ground 0 0 0 0", "piece 1 1 0"); text != oneText {
		t.Fatal(text)
	}
	for i, x := range []struct {
		j    api.LeafJob
		text string
	}{
		{one(), oneText},
		{j(), sealed("leaf 4 3 2 1", "ground 1 2 4 6", "ground 0 1 2 3", "piece 3 2 0", "piece 2 2 0", "either 1 3 1", "piece 4 1 1")},
		{n(), sealed("leaf 2 2 1 0", "ground 0 0 0 0", "piece 2 2 0", "piece 2 2 0")},
		{turning(one(), 0), sealed("leaf 1 1 1 0", "ground 0 0 0 0", "either 1 1 0")},
		{largest(), sealed("leaf 6 6 25 24", "ground 12 12 12 12", "ground 12 12 12 12", "ground 12 12 12 12", "either 6 6 2", "either 6 6 2", "either 6 6 2", "either 6 6 2", "either 6 6 2")},
	} {
		if text, e := leaf.Print(x.j); e != api.OK || text != x.text {
			t.Errorf("%d: %q %v", i, text, e)
		}
		if again, e := leaf.Read(x.text); e != api.OK || !sameJob(again, x.j) {
			t.Error(i, again, e)
		}
	}
}

// someJobs returns jobs of all kinds.
func someJobs(count int) []api.LeafJob {
	roll := dice(7)
	all := []api.LeafJob{j(), k(), n(), one(), largest(), pinwheel()}
	for range count {
		all = append(all, roll.job(api.LeafSide, api.LeafPieces, api.LeafHours))
	}
	return all
}

// P4.7 and P0.11: what was written is read as what was written.
func TestReadWhatWasPrinted(t *testing.T) {
	for _, x := range someJobs(2000) {
		text, e := leaf.Print(x)
		if e != api.OK || len(text) > api.LeafText {
			t.Fatal(x, text, e)
		}
		if again, e := leaf.Read(text); e != api.OK || !sameJob(x, again) {
			t.Fatal(x, text, again, e)
		}
	}
}

// P4.7: one digit that was changed is noticed.
func TestChangedDigits(t *testing.T) {
	for _, x := range someJobs(50) {
		text, _ := leaf.Print(x)
		for i := range text {
			if text[i] < '0' || text[i] > '9' {
				continue
			}
			for _, digit := range strings.Replace("0123456789", text[i:i+1], "", 1) {
				unread(t, api.ErrText, text[:i]+string(digit)+text[i+1:])
			}
		}
	}
}

// unread checks the error of Read, with which nothing else is returned.
func unread(t *testing.T, want api.Errno, texts ...string) {
	t.Helper()
	for i, text := range texts {
		if x, e := leaf.Read(text); e != want || !sameJob(x, api.LeafJob{}) {
			t.Errorf("%d: %q %v %v", i, text, x, e)
		}
	}
}

// P4.7: strings that have no lines as a text has them.
func TestReadLines(t *testing.T) {
	first, on, piece, either := "leaf 1 1 1 0", "ground 0 0 0 0", "piece 1 1 0", "either 1 1 0"
	for _, body := range [][]string{{first, on, piece, either}, {first, on, either, piece}, {first, on, on, on, piece, either, either, piece, piece}} {
		if x, e := leaf.Read(sealed(body...)); e != api.OK || len(x.Grounds)+len(x.Pieces) != len(body)-1 {
			t.Error(body, x, e)
		}
	}
	unread(t, api.ErrText,
		"", "\n", "end 000", "end 000\n", "end 00\n", "end\n", "end 001\n", "end 000\n\n", "leaf 1 1 1 0\n", oneText[1:], oneText+"\n", " "+oneText, oneText+" ", oneText+oneText, strings.TrimSuffix(oneText, "\n"),
		strings.ReplaceAll(oneText, "\n", "\r\n"), strings.ReplaceAll(oneText, "\n", " "), strings.Replace(oneText, "166", "165", 1), strings.Replace(oneText, "166", "357", 1), strings.Replace(oneText, "166", "0166", 1), strings.Replace(oneText, "end 166", "end  166", 1), strings.Replace(oneText, "end 166\n", "", 1), strings.Replace(oneText, "end", "End", 1),
		sealed(on, piece), sealed(piece), sealed(on), sealed(either), sealed(on, first, piece), sealed(on, piece, first), sealed(first, piece, on), sealed(first, either, on), sealed(first, on, piece, on), sealed(first, on, either, on, piece), sealed(first, first, on, piece), sealed(first, on, first, piece), sealed(first, on, piece, first),
		sealed("", first, on, piece), sealed(first, "", on, piece), sealed(first, on, "", piece), sealed(first, on, piece, ""), sealed(first, "end 000", on, piece), sealed(first, on, piece, "pieces 1 1 0"), sealed(first, on, piece, "end"),
	)
}

// P4.7: lines with words that are not as a text has them, though the check is right.
func TestReadWords(t *testing.T) {
	text := sealed("leaf 6 5 20 10", "ground 0 1 2 12", "piece 3 4 0", "either 2 1 0")
	for _, x := range [][2]string{
		{"leaf", "Leaf"}, {"leaf", "leave"}, {"leaf", "job"}, {"leaf 6 5 20 10", "leaf 6 5 20"}, {"leaf 6 5 20 10", "leaf 6 5 20 10 1"}, {"leaf 6", "leaf  6"}, {"leaf 6", " leaf 6"}, {"leaf 6", "leaf\t6"}, {"leaf 6 5 20 10", "leaf 6 5 20 10 "}, {"leaf 6 5 20 10", "leaf 6 5 20 ten"},
		{"20", "020"}, {"20", "00"}, {"20", "-2"}, {"20", "+2"}, {"20", "100"}, {"20", "000"}, {"20", "2x"}, {"20", "x"}, {"20", ".1"}, {"20", "1_"}, {"20", "1,"}, {"20", "٣"}, {"20", "2\xff"}, {"20", "-"}, {"20", ""}, {"20", "yes"},
		{"12", "012"}, {"12", "123"}, {"12", "-1"}, {"2 12", "12"}, {"2 12", "2 12 0"}, {"ground", "Ground"}, {"ground", "grounds"}, {"ground 0 1 2 12", "ground"}, {"ground", "piece"},
		{"piece 3 4 0", "piece 3 4"}, {"piece 3 4 0", "piece 3 4 0 0"}, {"piece 3 4 0", "piece 03 4 0"}, {"piece 3 4 0", "piece 3 4 100"}, {"piece 3 4 0", "piece 3 4 yes"}, {"piece 3 4 0", "piece 3,4 0"}, {"piece", "Piece"}, {"piece", "ground"}, {"piece", "leaf"},
		{"either 2 1 0", "either 2 1"}, {"either 2 1 0", "either 2 1 0 0"}, {"either 2 1 0", "either 2 1 00"}, {"either 2 1 0", "either 2 -1 0"}, {"either", "Either"}, {"either", "neither"}, {"either", "turn"},
	} {
		if wrong := resealed(text, x[0], x[1]); wrong == text {
			t.Error(x)
		} else {
			unread(t, api.ErrText, wrong)
		}
	}
	if x, e := leaf.Read(text); e != api.OK || x.Book != 20 || x.Grounds[0].Last.High != 12 || x.Pieces[0].Turn || !x.Pieces[1].Turn {
		t.Error(x, e)
	}
}

// P4.7: a text has its form with any numbers and lines, but its job may not be as defined.
func TestReadJobs(t *testing.T) {
	first, on, piece := "leaf 1 1 1 0", "ground 0 0 0 0", "piece 1 1 0"
	unread(t, api.ErrArg,
		sealed(first), sealed(first, on), sealed(first, piece), sealed(first, on, on, on, on, piece), sealed(append([]string{first, on}, slices.Repeat([]string{piece}, 6)...)...), sealed(append([]string{first}, slices.Repeat([]string{piece}, 6)...)...),
		resealed(oneText, first, "leaf 0 1 1 0"), resealed(oneText, first, "leaf 7 1 1 0"), resealed(oneText, first, "leaf 1 0 1 0"), resealed(oneText, first, "leaf 1 99 1 0"), resealed(oneText, first, "leaf 1 1 0 0"), resealed(oneText, first, "leaf 1 1 26 0"), resealed(oneText, first, "leaf 1 1 1 1"),
		resealed(oneText, on, "ground 1 0 0 0"), resealed(oneText, on, "ground 0 1 0 1"), resealed(oneText, on, "ground 0 0 1 0"), resealed(oneText, on, "ground 0 0 0 13"),
		resealed(oneText, piece, "piece 0 1 0"), resealed(oneText, piece, "piece 1 7 0"), resealed(oneText, piece, "piece 1 1 1"), resealed(oneText, piece, "either 99 1 0"),
	)
}

// filled returns a text of so many bytes, with more pieces than there can be, all of them as a text has them.
func filled(bytes int) string {
	rest := bytes - len("leaf 1 1 1 0\n") - len("end 000\n")
	body := append([]string{"leaf 1 1 1 0"}, slices.Repeat([]string{"piece 0 0 0"}, rest/12)...)
	// numbers with more digits, or words with more letters
	for i := range rest % 12 {
		body[1+i%6] = []string{"piece 10 0 0", "piece 10 10 0"}[i/6]
	}
	return sealed(body...)
}

// P4.7: a string may have as many bytes as a text at most, and no more.
func TestReadLong(t *testing.T) {
	for bytes := 170; bytes < 190; bytes++ {
		text := filled(bytes)
		if len(text) != bytes {
			t.Fatal(bytes, len(text))
		}
		want := api.ErrArg
		if bytes > 180 {
			want = api.ErrLong
		}
		unread(t, want, text)
	}
	unread(t, api.ErrLong, strings.Repeat("x", 181), strings.Repeat("\n", 5000), oneText+strings.Repeat(" ", 181-len(oneText)))
	unread(t, api.ErrText, strings.Repeat("x", 180), strings.Repeat("\xff", 180), oneText+strings.Repeat(" ", 180-len(oneText)))
}
