package picture

import (
	"slices"
	"testing"

	"pixels/api"
	"pixels/colours"
	"pixels/head"
	"pixels/rows"
)

// Two rows, of which one is known.
func TestLists(t *testing.T) {
	h := head.Head{W: 2, H: 2, Depth: 8, Kind: api.Grey}
	r := rows.Begin(h, 0)
	for _, b := range []byte{0, 1, 2, 0, 3} {
		r.Take(b)
	}
	var table colours.Table
	if got := Known(h, &r); !slices.Equal(got, []int{1, 1, 0, 0}) {
		t.Errorf("P8: known %v", got)
	}
	want := []int{257, 257, 257, 65535, 514, 514, 514, 65535, 0, 0, 0, 0, 0, 0, 0, 0}
	if got := Pix(h, &r, &table); !slices.Equal(got, want) {
		t.Errorf("P8: pixels %v", got)
	}
	if got := Show(h, &r, &table); !slices.Equal(got, want) {
		t.Errorf("P8: shown %v", got)
	}
}

// The first pixel of an interlaced picture fills a block of 8 by 8, and no more.
func TestFirstBlock(t *testing.T) {
	h := head.Head{W: 16, H: 9, Depth: 8, Kind: api.GreyAlpha, Lace: 1}
	r := rows.Begin(h, 0)
	for _, b := range []byte{0, 1, 2, 3, 4} {
		r.Take(b)
	}
	var table colours.Table
	got := Show(h, &r, &table)
	for i := range 16 * 9 {
		want := []int{0, 0, 0, 0}
		if i/16 < 8 {
			want = []int{257, 257, 257, 514}
			if i%16 >= 8 {
				want = []int{771, 771, 771, 1028}
			}
		}
		if !slices.Equal(got[4*i:4*i+4], want) {
			t.Fatalf("P8: shown at %d, %d: %v, want %v", i%16, i/16, got[4*i:4*i+4], want)
		}
	}
}

func TestNoPicture(t *testing.T) {
	var r rows.Reader
	var table colours.Table
	for _, h := range []head.Head{{}, {W: -1, H: 3}, {W: 3, H: -1}, {W: -2, H: -2}, {W: 0, H: 2}} {
		if len(Known(h, &r))+len(Pix(h, &r, &table))+len(Show(h, &r, &table)) != 0 {
			t.Errorf("P1: lists of %+v", h)
		}
	}
}
