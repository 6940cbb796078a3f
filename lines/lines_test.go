package lines_test

import (
	"slices"
	"testing"

	"mahlstick/lines"
)

func TestSealAndOpen(t *testing.T) {
	for i, x := range []struct {
		body   []string
		modulo int
		text   string
	}{
		{nil, 173, "end 000\n"},
		{[]string{"front 1 1", "spaces 0 0 0 0 1", "sign 1", "word no 0 -"}, 173, "front 1 1\nspaces 0 0 0 0 1\nsign 1\nword no 0 -\nend 098\n"},
		{[]string{"tram 1 1 1 0", "cell 1 2 no"}, 223, "tram 1 1 1 0\ncell 1 2 no\nend 178\n"},
		{[]string{"\x01"}, 7, "\x01\nend 001\n"},
		{[]string{"\x01\x02", "\x03"}, 100, "\x01\x02\n\x03\nend 011\n"},
		{[]string{"", "\xff"}, 1000, "\n\xff\nend 510\n"},
	} {
		if text := lines.Seal(x.body, x.modulo); text != x.text {
			t.Errorf("%d: %q", i, text)
		}
		if body, ok := lines.Open(x.text, x.modulo); !ok || !slices.Equal(body, x.body) {
			t.Errorf("%d: %q %v", i, body, ok)
		}
	}
	for i, text := range []string{"", "\n", "end 000", "end 000\n\n", "end 000\nx", "end 001\n", "end 00\n", "\x01\nend 000\n", "\x01\nend 001", "\x01 end 001\n"} {
		if body, ok := lines.Open(text, 173); ok || body != nil {
			t.Errorf("%d: %q %v", i, body, ok)
		}
	}
}

func TestNumber(t *testing.T) {
	for word, want := range map[string]int{"0": 0, "7": 7, "10": 10, "909": 909} {
		if n, ok := lines.Number(word, 3); !ok || n != want {
			t.Error(word, n, ok)
		}
	}
	for _, word := range []string{"", "00", "01", "1000", "-1", "+1", "1 ", " 1", "x", "1x", "٣", "\xff", "/", ":"} {
		if n, ok := lines.Number(word, 3); ok || n != 0 {
			t.Errorf("%q %v %v", word, n, ok)
		}
	}
	if n, ok := lines.Number("100", 2); ok || n != 0 {
		t.Error(n, ok)
	}
}

func TestLists(t *testing.T) {
	for word, list := range map[string][]int{"-": nil, "0": {0}, "12,0,345": {12, 0, 345}} {
		if got := lines.List(list); got != word {
			t.Error(list, got)
		}
		if got, ok := lines.Numbers(word, 3); !ok || !slices.Equal(got, list) {
			t.Error(word, got, ok)
		}
	}
	for _, word := range []string{"", ",", "1,", ",1", "1,,2", "--", "1,-", "1;2", "1, 2", "01,1", "1,1000"} {
		if got, ok := lines.Numbers(word, 3); ok || got != nil {
			t.Errorf("%q %v %v", word, got, ok)
		}
	}
	if got := lines.Join(" ", 1, 20, 3) + lines.Join(" "); got != "1 20 3" {
		t.Error(got)
	}
}
