package best_test

import (
	"slices"
	"testing"

	"mahlstick/best"
)

func TestOf(t *testing.T) {
	longer := func(a, b string) bool { return len(a) > len(b) }
	for i, x := range []struct {
		all   []string
		want  string
		found bool
	}{
		{nil, "", false},
		{[]string{""}, "", true},
		{[]string{"a", "bcd", "e"}, "bcd", true},
		{[]string{"ab", "c", "de", "fg"}, "ab", true},
		{[]string{"a", "bc", "de", "fgh"}, "fgh", true},
	} {
		if got, found := best.Of(slices.Values(x.all), longer); got != x.want || found != x.found {
			t.Errorf("%d: %q %v", i, got, found)
		}
	}
}
