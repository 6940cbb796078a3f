package sum_test

import (
	"testing"

	"mahlstick/sum"
)

func TestOf(t *testing.T) {
	for i, x := range []struct {
		numbers []int
		want    int
	}{
		{nil, 0}, {[]int{7}, 7}, {[]int{1, 2, 30}, 33}, {[]int{5, -5, 0, -3}, -3},
	} {
		if got := sum.Of(x.numbers...); got != x.want {
			t.Error(i, got)
		}
	}
	if got := sum.Of(); got != 0 {
		t.Error(got)
	}
}
