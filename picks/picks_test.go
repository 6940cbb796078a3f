package picks_test

import (
	"slices"
	"testing"

	"mahlstick/picks"
)

func same(a, b [][]int) bool {
	return slices.EqualFunc(a, b, func(x, y []int) bool { return slices.Equal(x, y) })
}

func TestOf(t *testing.T) {
	for i, x := range []struct {
		numbers []int
		want    [][]int
	}{
		{nil, [][]int{nil}},
		{[]int{7}, [][]int{nil, {7}}},
		{[]int{0, 2, 5}, [][]int{nil, {0}, {0, 2}, {0, 2, 5}, {0, 5}, {2}, {2, 5}, {5}}},
		{[]int{3, 1}, [][]int{nil, {3}, {3, 1}, {1}}},
	} {
		numbers := slices.Clone(x.numbers)
		if got := slices.Collect(picks.Of(numbers)); !same(got, x.want) || !slices.Equal(numbers, x.numbers) {
			t.Error(i, got, numbers)
		}
	}
}

func TestOrderOfLists(t *testing.T) {
	got := slices.Collect(picks.Of([]int{0, 1, 2, 3, 4, 5}))
	if len(got) != 64 || !slices.IsSortedFunc(got, slices.Compare) {
		t.Error(got)
	}
}

func TestLeaving(t *testing.T) {
	numbers := []int{0, 1, 2}
	for stop := range 8 {
		var got [][]int
		for list := range picks.Of(numbers) {
			got = append(got, list)
			if len(got) > stop {
				break
			}
		}
		if all := slices.Collect(picks.Of(numbers)); !same(got, all[:stop+1]) {
			t.Error(stop, got)
		}
	}
}

// Lists share no memory with each other or with the one that they are from.
func TestMemory(t *testing.T) {
	numbers := []int{0, 1, 2, 3}
	got := slices.Collect(picks.Of(numbers))
	for _, list := range got {
		for i := range list {
			list[i] = 9
		}
		_ = append(list, 8)
	}
	for _, list := range got {
		if slices.Contains(list, 8) || len(slices.Compact(slices.Clone(list))) > 1 {
			t.Error(list)
		}
	}
	if !slices.Equal(numbers, []int{0, 1, 2, 3}) {
		t.Error(numbers)
	}
}
