package limits_test

import (
	"math"
	"testing"

	"mahlstick/api"
	"mahlstick/limits"
)

func TestIsFrom(t *testing.T) {
	for n, want := range map[int]bool{math.MinInt: false, 1: false, 2: true, 3: true, 4: true, 5: false, math.MaxInt: false} {
		if got := limits.IsFrom(2, n, 4); got != want {
			t.Error(n, got)
		}
	}
	if limits.IsFrom(1, 0, 0) || limits.IsFrom(1, 1, 0) {
		t.Error("there is nothing from 1 to 0")
	}
}

func TestLists(t *testing.T) {
	for i, x := range []struct {
		numbers    []int
		from       bool
		different  bool
		increasing bool
	}{
		{nil, true, true, true}, {[]int{}, true, true, true}, {[]int{2}, true, true, true}, {[]int{5}, true, true, true}, {[]int{2, 5}, true, true, true}, {[]int{2, 3, 4, 5}, true, true, true},
		{[]int{5, 2}, true, true, false}, {[]int{2, 3, 5, 4}, true, true, false}, {[]int{2, 4, 3, 5}, true, true, false}, {[]int{5, 4, 3, 2}, true, true, false},
		{[]int{3, 3}, true, false, false}, {[]int{2, 3, 2}, true, false, false}, {[]int{2, 3, 4, 5, 5}, true, false, false}, {make([]int, 1000), false, false, false},
		{[]int{1}, false, false, false}, {[]int{6}, false, false, false}, {[]int{1, 2}, false, false, false}, {[]int{2, 6}, false, false, false}, {[]int{2, 1, 5}, false, false, false}, {[]int{math.MaxInt, math.MinInt}, false, false, false}, {[]int{math.MinInt, math.MaxInt}, false, false, false},
	} {
		if got := limits.AreFrom(2, x.numbers, 5); got != x.from {
			t.Error(i, x.numbers, got)
		}
		if got := limits.AreDifferent(2, x.numbers, 5); got != x.different {
			t.Error(i, x.numbers, got)
		}
		if got := limits.AreIncreasing(2, x.numbers, 5); got != x.increasing {
			t.Error(i, x.numbers, got)
		}
	}
}

func TestIsSpan(t *testing.T) {
	for x, want := range map[api.Span]bool{
		{Low: 2, High: 5}: true, {Low: 2, High: 2}: true, {Low: 5, High: 5}: true, {Low: 3, High: 4}: true,
		{Low: 1, High: 5}: false, {Low: 2, High: 6}: false, {Low: 4, High: 3}: false, {Low: 6, High: 6}: false, {Low: 1, High: 1}: false, {Low: math.MinInt, High: math.MaxInt}: false,
	} {
		if got := limits.IsSpan(2, x, 5); got != want {
			t.Error(x, got)
		}
	}
}

func TestAreSpans(t *testing.T) {
	for i, x := range []struct {
		spans []api.Span
		want  bool
	}{
		{nil, true}, {[]api.Span{{Low: 2, High: 5}}, true}, {[]api.Span{{Low: 4, High: 4}, {Low: 2, High: 3}, {Low: 4, High: 4}}, true},
		{[]api.Span{{Low: 1, High: 5}}, false}, {[]api.Span{{Low: 2, High: 6}, {Low: 2, High: 2}}, false}, {[]api.Span{{Low: 2, High: 2}, {Low: 5, High: 4}}, false}, {make([]api.Span, 1000), false},
	} {
		if got := limits.AreSpans(2, x.spans, 5); got != x.want {
			t.Error(i, got)
		}
	}
}
