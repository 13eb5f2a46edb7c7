package codes

import (
	"math"
	"testing"
)

func TestShortAt(t *testing.T) {
	for i, want := range []int{16, 17, 18, 0, 8, 7, 9, 6, 10, 5, 11, 4, 12, 3, 13, 2, 14, 1, 15} {
		if got := ShortAt(i); got != want {
			t.Errorf("P6: place %d: %d, want %d", i, got, want)
		}
	}
	for _, i := range []int{math.MinInt, -1, 19, math.MaxInt} {
		if got := ShortAt(i); got != -1 {
			t.Errorf("P1: place %d: %d", i, got)
		}
	}
}

func TestRepeat(t *testing.T) {
	for short, want := range map[int][2]int{0: {1, 0}, 1: {1, 0}, 15: {1, 0}, 16: {3, 2}, 17: {3, 3}, 18: {11, 7}, 19: {1, 0}, -1: {1, 0}} {
		if least, bits := Repeat(short); least != want[0] || bits != want[1] {
			t.Errorf("P6: short code %d: %d times, %d bits, want %v", short, least, bits, want)
		}
	}
}
