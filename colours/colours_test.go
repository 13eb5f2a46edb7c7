package colours

import (
	"testing"

	"pixels/api"
	"pixels/head"
)

// Each value of each depth is spread over 0 to 65535.
func TestSpread(t *testing.T) {
	var table Table
	for _, depth := range []int{1, 2, 4, 8, 16} {
		for v := range 1 << depth {
			w := v * 65535 / (1<<depth - 1)
			got := table.Colour(head.Head{Kind: api.Grey, Depth: depth}, [4]int{v, 1, 2, 3})
			if got != [4]int{w, w, w, 65535} {
				t.Fatalf("P8: %d of depth %d: %v", v, depth, got)
			}
		}
	}
}

func TestSamples(t *testing.T) {
	var table Table
	for kind, want := range map[int][4]int{api.Rgb: {257, 514, 771, 65535}, api.GreyAlpha: {257, 257, 257, 514}, api.RgbAlpha: {257, 514, 771, 1028}} {
		if got := table.Colour(head.Head{Kind: kind, Depth: 8}, [4]int{1, 2, 3, 4}); got != want {
			t.Errorf("P8: kind %d: %v, want %v", kind, got, want)
		}
	}
}

// Only a pixel of just tRNS's samples is clear, and only if there is tRNS.
func TestClear(t *testing.T) {
	grey, rgb := head.Head{Kind: api.Grey, Depth: 16}, head.Head{Kind: api.Rgb, Depth: 16}
	var table Table
	if table.Colour(grey, [4]int{})[3] != 65535 || table.Colour(rgb, [4]int{})[3] != 65535 {
		t.Error("P8: clear without tRNS")
	}
	for i, b := range []byte{1, 2, 3, 4, 5, 6} {
		table.LayClear(i, b)
	}
	table.SetClears(6)
	for _, c := range []struct {
		h     head.Head
		s     [4]int
		alpha int
	}{
		{grey, [4]int{258}, 0}, {grey, [4]int{259}, 65535}, {grey, [4]int{2}, 65535},
		{rgb, [4]int{258, 772, 1286}, 0}, {rgb, [4]int{258, 772, 1287}, 65535}, {rgb, [4]int{258, 773, 1286}, 65535}, {rgb, [4]int{0, 772, 1286}, 65535},
	} {
		if got := table.Colour(c.h, c.s); got[3] != c.alpha || got[0] != c.s[0] {
			t.Errorf("P8: kind %d, %v: %v", c.h.Kind, c.s, got)
		}
	}
}

func TestPalette(t *testing.T) {
	var table Table
	for i := range PaletteSize {
		table.LayPalette(i, byte(i))
	}
	for i := range ClearSize {
		table.LayClear(i, byte(255-i))
	}
	table.SetColours(256)
	h := head.Head{Kind: api.Palette, Depth: 8}
	for clears := range ClearSize + 1 {
		table.SetClears(clears)
		for i := range 256 {
			a := 255
			if i < clears {
				a = 255 - i
			}
			want := [4]int{257 * (3 * i & 255), 257 * ((3*i + 1) & 255), 257 * ((3*i + 2) & 255), 257 * a}
			if got := table.Colour(h, [4]int{i}); got != want {
				t.Fatalf("P8: colour %d with %d alphas: %v, want %v", i, clears, got, want)
			}
		}
	}
}

// Places that are none make no panic and change nothing.
func TestNone(t *testing.T) {
	var table Table
	for _, i := range []int{-1 << 60, -1, PaletteSize, 1 << 60} {
		table.LayPalette(i, 9)
		table.LayClear(i, 9)
		table.SetClears(i)
		if got := table.Colour(head.Head{Kind: api.Palette}, [4]int{i}); got != [4]int{} {
			t.Errorf("P1: colour %d: %v", i, got)
		}
		if table.ClearSample(i) != 0 {
			t.Errorf("P1: sample %d: %d", i, table.ClearSample(i))
		}
	}
	table.SetClears(0)
	if table != (Table{}) {
		t.Error("P1: something was laid beside the table")
	}
}
