package turns

import (
	"math"
	"testing"
)

func TestOf(t *testing.T) {
	l := []int{5, 0, 7}
	for k, want := range []int{5, 0, 7, 5, 0, 7, 5} {
		if got := Of(l, k); got != want {
			t.Errorf("P11: turn %d: %d, want %d", k, got, want)
		}
	}
	if got := Of([]int{9}, math.MaxInt); got != 9 {
		t.Errorf("P11: one member at a late turn: %d", got)
	}
}

func TestNone(t *testing.T) {
	for _, k := range []int{math.MinInt, -1, 0, 1, math.MaxInt} {
		if got := Of(nil, k); got != 0 {
			t.Errorf("P1: of no list: %d", got)
		}
	}
	for _, k := range []int{math.MinInt, -1} {
		if got := Of([]int{3, 4}, k); got != 0 {
			t.Errorf("P1: turn %d: %d", k, got)
		}
	}
}
