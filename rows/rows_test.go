package rows

import (
	"testing"

	"pixels/api"
	"pixels/head"
	"pixels/passes"
)

// heads: all headers that there are.
func heads(f func(h head.Head)) {
	for kind := range 7 {
		for depth := range 17 {
			if !head.Fits(kind, depth) {
				continue
			}
			for w := 1; w <= api.MaxSide; w++ {
				for h := 1; h <= api.MaxSide; h++ {
					for lace := range 2 {
						f(head.Head{W: w, H: h, Depth: depth, Kind: kind, Lace: lace})
					}
				}
			}
		}
	}
}

// count: how many bytes the rows of a picture have.
func count(h head.Head) int {
	n := 0
	for k := range passes.Count(h.Lace) {
		p := passes.Of(h.Lace, k)
		if w := p.Columns.Within(h.W); w > 0 {
			n += p.Rows.Within(h.H) * (1 + (w*head.Samples(h.Kind)*h.Depth+7)/8)
		}
	}
	return n
}

// Each picture takes as many noughts as its rows have, no more, and all its pixels are known then.
func TestAllPictures(t *testing.T) {
	most := 0
	heads(func(h head.Head) {
		n := count(h)
		most = max(most, n)
		x := Begin(h, 1)
		for i := range n {
			if x.Whole() {
				t.Fatalf("P7: %+v: whole behind %d of %d", h, i, n)
			}
			if e := x.Take(0); e != api.OK {
				t.Fatalf("P7: %+v: %d at %d of %d", h, e, i, n)
			}
		}
		if !x.Whole() || x.Take(0) != api.ErrMany {
			t.Fatalf("P7: %+v: not whole behind %d", h, n)
		}
		for r := range api.MaxSide {
			for c := range api.MaxSide {
				if x.Known(c, r) != (c < h.W && r < h.H) {
					t.Fatalf("P8: %+v: known at %d, %d: %v", h, c, r, x.Known(c, r))
				}
			}
		}
	})
	if most != MaxBytes {
		t.Errorf("the greatest picture has %d bytes, not %d", most, MaxBytes)
	}
}

// The byte to the left is one pixel ahead, at least a byte.
func TestLeft(t *testing.T) {
	for _, c := range []struct {
		h    head.Head
		step int
	}{
		{head.Head{Kind: api.Grey, Depth: 1}, 1}, {head.Head{Kind: api.Grey, Depth: 8}, 1}, {head.Head{Kind: api.Palette, Depth: 4}, 1}, {head.Head{Kind: api.Grey, Depth: 16}, 2},
		{head.Head{Kind: api.GreyAlpha, Depth: 8}, 2}, {head.Head{Kind: api.GreyAlpha, Depth: 16}, 4}, {head.Head{Kind: api.Rgb, Depth: 8}, 3}, {head.Head{Kind: api.Rgb, Depth: 16}, 6}, {head.Head{Kind: api.RgbAlpha, Depth: 8}, 4}, {head.Head{Kind: api.RgbAlpha, Depth: 16}, 8},
	} {
		h := c.h
		h.W, h.H = 16, 1
		x := Begin(h, 256)
		x.Take(1)
		for i := 0; i < c.step+1; i++ {
			x.Take(byte(1 + i))
		}
		for i := range c.step {
			if x.row[i] != byte(1+i) {
				t.Errorf("P7: %+v: byte %d is %d", h, i, x.row[i])
			}
		}
		if x.row[c.step] != byte(1+c.step)+1 {
			t.Errorf("P7: %+v: byte %d is %d", h, c.step, x.row[c.step])
		}
	}
}

// The first row of a pass has none above it, whatever the pass ahead had.
func TestPassesBeginAnew(t *testing.T) {
	x := Begin(head.Head{W: 5, H: 1, Depth: 8, Kind: api.Grey, Lace: 1}, 0)
	for i, b := range []byte{0, 9, 2, 3, 4, 5, 3, 6, 7} {
		if e := x.Take(b); e != api.OK {
			t.Fatalf("P7: %d at %d", e, i)
		}
	}
	for c, want := range []int{9, 6, 5, 10, 3} {
		if got := x.Samples(c, 0)[0]; got != want || !x.Known(c, 0) {
			t.Errorf("P7: pixel %d: %d, want %d", c, got, want)
		}
	}
	if !x.Whole() {
		t.Error("P7: not whole")
	}
}

// A pixel has as many samples as its kind, and noughts behind them.
func TestSamplesOfKinds(t *testing.T) {
	for kind, want := range map[int][4]int{api.Grey: {1}, api.Palette: {1}, api.GreyAlpha: {1, 2}, api.Rgb: {1, 2, 3}, api.RgbAlpha: {1, 2, 3, 4}} {
		x := Begin(head.Head{W: 2, H: 1, Depth: 8, Kind: kind}, 256)
		for b := range 9 {
			x.Take(byte(b))
		}
		if got := x.Samples(0, 0); got != want {
			t.Errorf("P7: kind %d: %v, want %v", kind, got, want)
		}
	}
}

func TestNone(t *testing.T) {
	x := Begin(head.Head{W: 16, H: 16, Depth: 8, Kind: api.Grey}, 0)
	for range 16 * 17 {
		x.Take(1)
	}
	for _, i := range []int{-1 << 60, -1, 16, 1 << 60} {
		if x.Known(i, 0) || x.Known(0, i) || x.Samples(i, 0) != [4]int{} || x.Samples(0, i) != [4]int{} {
			t.Errorf("P1: a pixel at %d", i)
		}
	}
	var none Reader
	for range 300 {
		none.Take(0)
	}
	for _, h := range []head.Head{{}, {W: -1, H: -1}, {W: 99, H: 99, Depth: 99, Kind: 99, Lace: 99}, {W: 99, H: 99, Depth: 16, Kind: api.RgbAlpha, Lace: 1}, {W: 99, H: 3, Depth: 3, Kind: api.Palette}} {
		x := Begin(h, -1)
		for range 3000 {
			x.Take(0)
		}
	}
}
