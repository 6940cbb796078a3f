package lines_test

import (
	"slices"
	"strings"
	"testing"

	"mahlstick/lines"
)

func TestSealAndOpen(t *testing.T) {
	for i, x := range []struct {
		body   []string
		modulo int
		text   string
	}{
		{nil, 173, "end 000\n"},
		{[]string{"front 1 1", "spaces 0 0 0 0 1", "sign 1", "word no 0 -"}, 173, "front 1 1\nspaces 0 0 0 0 1\nsign 1\nword no 0 -\nend 098\n"},
		{[]string{"tram 1 1 1 0", "cell 1 2 no"}, 223, "tram 1 1 1 0\ncell 1 2 no\nend 178\n"},
		{[]string{"\x01"}, 7, "\x01\nend 001\n"},
		{[]string{"\x01\x02", "\x03"}, 100, "\x01\x02\n\x03\nend 011\n"},
		{[]string{"", "\xff"}, 1000, "\n\xff\nend 510\n"},
	} {
		if text := lines.Seal(x.body, x.modulo); text != x.text {
			t.Errorf("%d: %q", i, text)
		}
		if body, ok := lines.Open(x.text, x.modulo); !ok || !slices.Equal(body, x.body) {
			t.Errorf("%d: %q %v", i, body, ok)
		}
	}
	for i, text := range []string{"", "\n", "end 000", "end 000\n\n", "end 000\nx", "end 001\n", "end 00\n", "\x01\nend 000\n", "\x01\nend 001", "\x01 end 001\n"} {
		if body, ok := lines.Open(text, 173); ok || body != nil {
			t.Errorf("%d: %q %v", i, body, ok)
		}
	}
}

func TestNumber(t *testing.T) {
	for word, want := range map[string]int{"0": 0, "7": 7, "10": 10, "909": 909} {
		if n, ok := lines.Number(word, 3); !ok || n != want {
			t.Error(word, n, ok)
		}
	}
	for _, word := range []string{"", "00", "01", "1000", "-1", "+1", "1 ", " 1", "x", "1x", "٣", "\xff", "/", ":"} {
		if n, ok := lines.Number(word, 3); ok || n != 0 {
			t.Errorf("%q %v %v", word, n, ok)
		}
	}
	if n, ok := lines.Number("100", 2); ok || n != 0 {
		t.Error(n, ok)
	}
}

func TestLists(t *testing.T) {
	for word, list := range map[string][]int{"-": nil, "0": {0}, "12,0,345": {12, 0, 345}} {
		if got := lines.List(list); got != word {
			t.Error(list, got)
		}
		if got, ok := lines.Numbers(word, 3); !ok || !slices.Equal(got, list) {
			t.Error(word, got, ok)
		}
	}
	for _, word := range []string{"", ",", "1,", ",1", "1,,2", "--", "1,-", "1;2", "1, 2", "01,1", "1,1000"} {
		if got, ok := lines.Numbers(word, 3); ok || got != nil {
			t.Errorf("%q %v %v", word, got, ok)
		}
	}
	if got := lines.Join(" ", 1, 20, 3) + lines.Join(" "); got != "1 20 3" {
		t.Error(got)
	}
}

func TestKinds(t *testing.T) {
	kinds := []lines.Kind{{Word: "tram", Others: 4}, {Word: "cell", Others: 3}, {Word: "cell", Others: 1}, {Word: "stop"}}
	if got := kinds[0].Line("1 20", "3 0") + kinds[3].Line() + kinds[2].Line("no"); got != "tram 1 20 3 0stopcell no" {
		t.Error(got)
	}
	var got []string
	ok := lines.Parse(lines.Seal([]string{"cell 1", "tram 1 1 1 0", "stop", "cell 1 2 no"}, 7), 7, kinds, func(kind int, others []string) {
		got = append(got, strings.Join(append([]string{kinds[kind].Word}, others...), "_"))
	})
	if want := []string{"cell_1", "tram_1_1_1_0", "stop", "cell_1_2_no"}; !ok || !slices.Equal(got, want) {
		t.Error(got, ok)
	}
	if !lines.Parse(lines.Seal(nil, 7), 7, nil, nil) {
		t.Error("a text without lines")
	}
	for i, body := range [][]string{{""}, {"cell"}, {"cell 1 2"}, {"cell 1 2 3 4"}, {"stop "}, {" stop"}, {"Stop"}, {"stops"}, {"end 000"}, {"stop", "x"}} {
		if lines.Parse(lines.Seal(body, 7), 7, kinds, func(int, []string) {}) {
			t.Error(i, body)
		}
	}
	for i, text := range []string{"", "stop\n", "stop\nend 007\n", lines.Seal([]string{"stop"}, 5)} {
		if lines.Parse(text, 7, kinds, func(int, []string) { t.Error(i) }) {
			t.Error(i, text)
		}
	}
}

func TestKindsWithAnyWords(t *testing.T) {
	kinds := []lines.Kind{{Word: "stop", Others: 1}, {Word: "stop", Others: lines.Any}, {Word: "go"}}
	var got []string
	ok := lines.Parse(lines.Seal([]string{"stop", "stop 1", "stop 1 2", "stop ", "go", "stop 1 2 3"}, 7), 7, kinds, func(kind int, others []string) {
		got = append(got, strings.Join(append([]string{lines.Join("", kind)}, others...), "_"))
	})
	if want := []string{"1", "0_1", "1_1_2", "0_", "2", "1_1_2_3"}; !ok || !slices.Equal(got, want) {
		t.Error(got, ok)
	}
	for i, line := range []string{"", " stop", "stops", "stops 1 2", "go 1", "1 stop"} {
		if lines.Parse(lines.Seal([]string{line}, 7), 7, kinds, func(int, []string) {}) {
			t.Error(i, line)
		}
	}
}

func TestGivingUp(t *testing.T) {
	text := lines.Seal([]string{"a 1 02 3,4", "a 5 6 -"}, 7)
	kinds := []lines.Kind{{Word: "a", Others: 3}}
	for i, x := range []struct {
		each  func(others []string)
		calls int
	}{
		{func([]string) {}, 2},
		{func([]string) { lines.Must(true) }, 2},
		{func([]string) { lines.Must(false) }, 1},
		{func(others []string) { lines.Must(others[0] == "1") }, 2},
		{func(others []string) { lines.MustNumbers(others[:1], 1) }, 2},
		{func(others []string) { lines.MustNumbers(others[:2], 3) }, 1},
		{func(others []string) { lines.MustNumbers(others[2:], 3) }, 1},
		{func(others []string) { lines.MustList(others[2], 1) }, 2},
		{func(others []string) { lines.MustList(others[1], 3) }, 1},
		{func([]string) { panic("not that of a text") }, 1},
	} {
		calls := 0
		ok := lines.Parse(text, 7, kinds, func(_ int, others []string) {
			calls++
			x.each(others)
		})
		if whole := i < 2 || i == 4 || i == 7; ok != whole || calls != x.calls {
			t.Error(i, ok, calls)
		}
	}
	if n, l := lines.MustNumbers([]string{"1", "20"}, 2), lines.MustList("7,0", 1); !slices.Equal(n, []int{1, 20}) || !slices.Equal(l, []int{7, 0}) {
		t.Error(n, l)
	}
}

func TestYesNo(t *testing.T) {
	for _, is := range []bool{true, false} {
		if word := lines.YesNo(is); lines.MustYesNo(word) != is {
			t.Error(is, word)
		}
	}
	if word := lines.YesNo(true) + lines.YesNo(false); word != "yesno" {
		t.Error(word)
	}
	kinds := []lines.Kind{{Word: "a", Others: 1}}
	for word, want := range map[string]bool{"yes": true, "no": true, "": false, "Yes": false, "NO": false, "y": false, "yesno": false, "0": false, "true": false} {
		text := lines.Seal([]string{kinds[0].Line(word)}, 7)
		if ok := lines.Parse(text, 7, kinds, func(_ int, others []string) { lines.MustYesNo(others[0]) }); ok != want {
			t.Error(word, ok)
		}
	}
}
