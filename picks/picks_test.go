package picks_test

import (
	"iter"
	"slices"
	"testing"

	"mahlstick/picks"
)

// always says of each number that it may follow those before it.
func always([]int, int) bool { return true }

// differs says it of a number that is not there yet.
func differs(before []int, next int) bool { return !slices.Contains(before, next) }

func same(a, b [][]int) bool {
	return slices.EqualFunc(a, b, func(x, y []int) bool { return slices.Equal(x, y) })
}

func TestOf(t *testing.T) {
	for i, x := range []struct {
		numbers []int
		want    [][]int
	}{
		{nil, [][]int{nil}},
		{[]int{7}, [][]int{nil, {7}}},
		{[]int{0, 2, 5}, [][]int{nil, {0}, {0, 2}, {0, 2, 5}, {0, 5}, {2}, {2, 5}, {5}}},
		{[]int{3, 1}, [][]int{nil, {3}, {3, 1}, {1}}},
	} {
		numbers := slices.Clone(x.numbers)
		if got := slices.Collect(picks.Of(numbers)); !same(got, x.want) || !slices.Equal(numbers, x.numbers) {
			t.Error(i, got, numbers)
		}
	}
}

func TestOrderOfLists(t *testing.T) {
	got := slices.Collect(picks.Of([]int{0, 1, 2, 3, 4, 5}))
	if len(got) != 64 || !slices.IsSortedFunc(got, slices.Compare) {
		t.Error(got)
	}
}

func TestOfFirst(t *testing.T) {
	for count := range 6 {
		if got := slices.Collect(picks.OfFirst(count)); !same(got, slices.Collect(picks.Of([]int{0, 1, 2, 3, 4}[:count]))) {
			t.Error(count, got)
		}
	}
}

func TestLists(t *testing.T) {
	for i, x := range []struct {
		length, limit int
		may           func([]int, int) bool
		want          [][]int
	}{
		{0, 0, always, [][]int{nil}},
		{0, 3, always, [][]int{nil}},
		{2, 0, always, nil},
		{1, 3, always, [][]int{{0}, {1}, {2}}},
		{2, 2, always, [][]int{{0, 0}, {0, 1}, {1, 0}, {1, 1}}},
		{2, 3, differs, [][]int{{0, 1}, {0, 2}, {1, 0}, {1, 2}, {2, 0}, {2, 1}}},
		{3, 2, differs, nil},
		{3, 4, func(before []int, next int) bool { return len(before) == 0 || next == before[len(before)-1]+1 }, [][]int{{0, 1, 2}, {1, 2, 3}}},
		{2, 3, func([]int, int) bool { return false }, nil},
	} {
		if got := slices.Collect(picks.Lists(x.length, x.limit, x.may)); !same(got, x.want) {
			t.Error(i, got)
		}
	}
}

func TestWhere(t *testing.T) {
	long := func(list []int) bool { return len(list) > 1 }
	if got := slices.Collect(picks.Where(picks.OfFirst(3), long)); !same(got, [][]int{{0, 1}, {0, 1, 2}, {0, 2}, {1, 2}}) {
		t.Error(got)
	}
	if got := slices.Collect(picks.Where(picks.OfFirst(1), long)); got != nil {
		t.Error(got)
	}
}

func TestWithAndWithout(t *testing.T) {
	things := []string{"a", "b", "c", "b"}
	for i, x := range []struct {
		numbers       []int
		with, without []string
	}{
		{nil, nil, things},
		{[]int{1}, []string{"b"}, []string{"a", "c", "b"}},
		{[]int{3, 0}, []string{"b", "a"}, []string{"b", "c"}},
		{[]int{0, 1, 2, 3}, things, nil},
	} {
		if got := picks.With(things, x.numbers); !slices.Equal(got, x.with) {
			t.Error(i, got)
		}
		if got := picks.Without(things, x.numbers); !slices.Equal(got, x.without) {
			t.Error(i, got)
		}
	}
	picks.With(things, []int{0})[0], picks.Without(things, nil)[0] = "x", "y"
	if things[0] != "a" {
		t.Error(things)
	}
}

func TestLeaving(t *testing.T) {
	for i, all := range []iter.Seq[[]int]{picks.OfFirst(3), picks.Lists(2, 4, differs), picks.Where(picks.OfFirst(4), func(list []int) bool { return len(list) < 3 })} {
		lists := slices.Collect(all)
		for stop := range lists {
			var got [][]int
			for list := range all {
				got = append(got, list)
				if len(got) > stop {
					break
				}
			}
			if !same(got, lists[:stop+1]) {
				t.Error(i, stop, got)
			}
		}
	}
}

// Lists share no memory with each other or with the one that they are from.
func TestMemory(t *testing.T) {
	numbers := []int{0, 1, 2, 3}
	got := append(slices.Collect(picks.Of(numbers)), slices.Collect(picks.Lists(3, 4, differs))...)
	for _, list := range got {
		for i := range list {
			list[i] = 9
		}
		_ = append(list, 8)
	}
	for _, list := range got {
		if slices.Contains(list, 8) || len(slices.Compact(slices.Clone(list))) > 1 {
			t.Error(list)
		}
	}
	if !slices.Equal(numbers, []int{0, 1, 2, 3}) {
		t.Error(numbers)
	}
}
