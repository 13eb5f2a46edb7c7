package filters

import "testing"

func far(a, b int) int { return max(a-b, b-a) }

// Every filter, of all bytes to the left and above, and of many corners.
func TestGuess(t *testing.T) {
	for l := range 256 {
		for u := range 256 {
			for c := (l + u) % 3; c < 256; c += 3 {
				best := l
				for _, v := range []int{u, c} {
					if far(v, l+u-c) < far(best, l+u-c) {
						best = v
					}
				}
				want := [5]int{0, l, u, (l + u) / 2, best}
				for f, w := range want {
					if got := Guess(byte(f), byte(l), byte(u), byte(c)); int(got) != w {
						t.Fatalf("P7: filter %d of %d, %d, %d: %d, want %d", f, l, u, c, got, w)
					}
				}
			}
		}
	}
	if Last != 4 {
		t.Errorf("P7: the last filter is %d", Last)
	}
}
