package lines

import (
	"bytes"
	"math"
	"math/rand"
	"testing"

	"pixels/api"
	"pixels/head"
	"pixels/rows"
)

func TestRows(t *testing.T) {
	for _, c := range []struct {
		name    string
		h       head.Head
		pix     []int
		filters []int
		want    string
	}{
		{"depth 1, what is left is 0", head.Head{W: 3, H: 2, Depth: 1}, []int{1, 0, 1, 0, 1, 1}, []int{0}, "\x00\xa0\x00\x60"},
		{"depth 1, nine pixels", head.Head{W: 9, H: 1, Depth: 1}, []int{1, 0, 0, 0, 0, 0, 0, 1, 1}, []int{0}, "\x00\x81\x80"},
		{"depth 2", head.Head{W: 5, H: 1, Depth: 2}, []int{0, 1, 2, 3, 2}, []int{0}, "\x00\x1b\x80"},
		{"depth 4", head.Head{W: 3, H: 1, Depth: 4}, []int{1, 10, 15}, []int{0}, "\x00\x1a\xf0"},
		{"depth 16", head.Head{W: 2, H: 1, Depth: 16}, []int{0x1234, 0xfffe}, []int{0}, "\x00\x12\x34\xff\xfe"},
		{"rgb", head.Head{W: 2, H: 1, Depth: 8, Kind: api.Rgb}, []int{1, 2, 3, 4, 6, 8}, []int{1}, "\x01\x01\x02\x03\x03\x04\x05"},
		{"grey and alpha of depth 16", head.Head{W: 2, H: 1, Depth: 16, Kind: api.GreyAlpha}, []int{0x102, 0x304, 0x506, 0x708}, []int{1}, "\x01\x01\x02\x03\x04\x04\x04\x04\x04"},
		{"a filter of what is left", head.Head{W: 9, H: 2, Depth: 1}, []int{1, 0, 0, 0, 0, 0, 0, 0, 1, 1, 0, 0, 0, 0, 0, 0, 0, 1}, []int{1, 2}, "\x01\x80\x00\x02\x00\x00"},
		{"all filters in turn", head.Head{W: 2, H: 6, Depth: 8}, []int{5, 8, 6, 9, 4, 8, 5, 10, 9, 8, 10, 10}, []int{1, 2, 3, 4, 0},
			"\x01\x05\x03" + "\x02\x01\x01" + "\x03\x01\x02" + "\x04\x01\x02" + "\x00\x09\x08" + "\x01\x0a\x00"},
		{"filters over all passes", head.Head{W: 2, H: 2, Depth: 8, Lace: 1}, []int{1, 2, 3, 5}, []int{0, 2, 1, 4}, "\x00\x01" + "\x02\x02" + "\x01\x03\x02"},
		{"a pass begins with no row above", head.Head{W: 1, H: 6, Depth: 8, Lace: 1}, []int{1, 2, 3, 4, 5, 6}, []int{2}, "\x02\x01" + "\x02\x05" + "\x02\x03" + "\x02\x02\x02\x02\x02\x02"},
	} {
		if got := string(Bytes(c.h, c.pix, c.filters)); got != c.want {
			t.Errorf("P11: %s: %x, want %x", c.name, got, c.want)
		}
	}
}

// What is written here is read by the reader of rows.
func TestReadAgain(t *testing.T) {
	r := rand.New(rand.NewSource(1))
	for range 500 {
		kind := []int{0, 2, 3, 4, 6}[r.Intn(5)]
		h := head.Head{W: 1 + r.Intn(16), H: 1 + r.Intn(16), Kind: kind, Lace: r.Intn(2)}
		for !head.Fits(kind, h.Depth) {
			h.Depth = 1 << r.Intn(5)
		}
		pix := make([]int, h.W*h.H*head.Samples(kind))
		for i := range pix {
			pix[i] = r.Intn(1 << h.Depth)
		}
		x := rows.Begin(h, 256)
		for _, b := range Bytes(h, pix, []int{r.Intn(5), r.Intn(5), r.Intn(5)}) {
			if e := x.Take(b); e != api.OK {
				t.Fatalf("P10: %+v: %d", h, e)
			}
		}
		if !x.Whole() {
			t.Fatalf("P10: %+v: too few bytes", h)
		}
		for i := range h.W * h.H {
			got := x.Samples(i%h.W, i/h.W)
			for k := range head.Samples(kind) {
				if want := pix[i*head.Samples(kind)+k]; got[k] != want {
					t.Fatalf("P10: %+v: pixel %d: %v, sample %d is %d", h, i, got, k, want)
				}
			}
		}
	}
}

// Numbers and lists that are none make no panic.
func TestNone(t *testing.T) {
	numbers := []int{math.MinInt, -8, -1, 0, 1, 3, 7, 16}
	for _, depth := range append(numbers, 200, math.MaxInt) {
		for _, w := range numbers {
			for _, lace := range numbers {
				h := head.Head{W: w, H: 3, Depth: depth, Kind: api.Rgb, Lace: lace}
				Bytes(h, []int{1, 2, math.MaxInt, math.MinInt}, []int{math.MinInt, 300})
				Bytes(h, nil, nil)
			}
		}
	}
	if got := Bytes(head.Head{}, nil, nil); !bytes.Equal(got, nil) {
		t.Errorf("P1: rows of nothing: %x", got)
	}
}
