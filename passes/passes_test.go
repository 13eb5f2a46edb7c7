package passes

import (
	"math"
	"testing"
)

// wanted: x0 y0 dx dy and the block's columns and rows, as the document has them.
var wanted = [][6]int{{0, 0, 8, 8, 8, 8}, {4, 0, 8, 8, 4, 8}, {0, 4, 4, 8, 4, 4}, {2, 0, 4, 4, 2, 4}, {0, 2, 2, 4, 2, 2}, {1, 0, 2, 2, 1, 2}, {0, 1, 1, 2, 1, 1}}

// has: the pixels of a pass, place by place.
func has(p Pass, w, h int) map[[2]int]bool {
	l := map[[2]int]bool{}
	for y := range p.Rows.Within(h) {
		for x := range p.Columns.Within(w) {
			l[[2]int{p.Columns.Place(x), p.Rows.Place(y)}] = true
		}
	}
	return l
}

// Each pixel of a picture of any size is in one pass.
func TestPixelsOfPasses(t *testing.T) {
	for w := 1; w <= 16; w++ {
		for h := 1; h <= 16; h++ {
			all := map[[2]int]int{}
			for k, g := range wanted {
				got := has(Of(1, k), w, h)
				n := 0
				for y := g[1]; y < h; y += g[3] {
					for x := g[0]; x < w; x += g[2] {
						n++
						if !got[[2]int{x, y}] {
							t.Fatalf("P7: %d by %d, pass %d has no pixel %d, %d", w, h, k+1, x, y)
						}
						all[[2]int{x, y}]++
					}
				}
				if n != len(got) {
					t.Fatalf("P7: %d by %d, pass %d has %d pixels, want %d", w, h, k+1, len(got), n)
				}
			}
			if len(all) != w*h || len(has(Of(0, 0), w, h)) != w*h {
				t.Fatalf("P7: %d by %d: %d pixels", w, h, len(all))
			}
		}
	}
	if Count(0) != 1 || Count(1) != 7 {
		t.Errorf("P7: %d and %d passes", Count(0), Count(1))
	}
}

// A pass's pixel whose block has a place.
func TestBlocks(t *testing.T) {
	for k, g := range wanted {
		p := Of(1, k)
		for place := range 16 {
			for i, a := range []Axis{p.Columns, p.Rows} {
				want := -1
				for at := g[i]; at < 16; at += g[2+i] {
					if place >= at && place < at+g[4+i] {
						want = at
					}
				}
				got, ok := a.Origin(place)
				if ok != (want >= 0) || ok && got != want {
					t.Errorf("P8: pass %d, place %d: %d, %v, want %d", k+1, place, got, ok, want)
				}
			}
		}
	}
	for place := range 16 {
		if got, ok := Of(0, 0).Rows.Origin(place); got != place || !ok {
			t.Errorf("P8: a plain picture's place %d: %d, %v", place, got, ok)
		}
	}
}

func TestNone(t *testing.T) {
	for _, n := range []int{math.MinInt, -1, 0, 7, math.MaxInt} {
		for _, p := range []Pass{Of(1, n), Of(n, 0), {}} {
			for _, a := range []Axis{p.Columns, p.Rows} {
				if n < 1 && a.Within(n) != 0 {
					t.Errorf("P7: %d places of %d", a.Within(n), n)
				}
				a.Origin(n)
			}
		}
	}
}
