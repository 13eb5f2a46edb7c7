package pixels_test

import (
	"fmt"
	"reflect"
	"testing"

	"pixels/api"
	"pixels/pixels"
)

// unknown: what Snap shows ahead of the first row.
func unknown(w, h, kind, depth, lace int) api.Snap {
	return api.Snap{W: w, H: h, Kind: kind, Depth: depth, Lace: lace, Known: make([]int, w*h), Pix: make([]int, 4*w*h), Show: make([]int, 4*w*h)}
}

// Behind each byte of the chunks ahead of the first IDAT.
func TestSnapAheadOfData(t *testing.T) {
	forKinds(func(kind, depth int) {
		for _, c := range [][3]int{{1, 1, 0}, {16, 16, 1}, {16, 3, 0}, {2, 9, 1}} {
			w, h, lace := c[0], c[1], c[2]
			s := sign + head(uint32(w), uint32(h), depth, kind, "\x00\x00"+string([]byte{byte(lace)})) + chunk("abCd", "xy")
			if kind == api.Palette {
				s += colours(2)
			}
			s += opened(100, "IDAT")
			x := pixels.New()
			for i := range len(s) {
				x.Feed(s[i : i+1])
				want := api.Snap{}
				if i >= 32 {
					want = unknown(w, h, kind, depth, lace)
				}
				if got := x.Snap(); !reflect.DeepEqual(got, want) {
					t.Errorf("P8: kind %d, depth %d, behind byte %d: %+v", kind, depth, i, got)
					break
				}
			}
			x.Close()
			want := unknown(w, h, kind, depth, lace)
			want.Err, want.At = api.ErrCut, len(s)
			if got := x.Snap(); !reflect.DeepEqual(got, want) {
				t.Errorf("P8: kind %d, depth %d, closed: %+v", kind, depth, got)
			}
		}
	})
}

// What was known is known still behind an error; a header that is refused is never known.
func TestSnapBehindErrors(t *testing.T) {
	h := head(3, 5, 8, 2, "\x00\x00\x01")
	for _, c := range []struct {
		s    string
		e    api.Errno
		at   int
		size bool
	}{
		{sign + h + "\xff\x00\x00\x00", api.ErrLen, 36, true},
		{sign + h + chunk("ABCD", ""), api.ErrType, 40, true},
		{sign + h + chunk("tRNS", "\x00a\x01b\x00c"), api.ErrTrans, 50, true},
		{sign + h[:len(h)-1] + "!", api.ErrCrc, 32, false},
		{sign + head(17, 5, 8, 2, "\x00\x00\x01"), api.ErrLarge, 32, false},
		{sign + head(3, 5, 7, 2, "\x00\x00\x01"), api.ErrHead, 32, false},
		{sign + "\x00\x00\x00\x0cIHDR", api.ErrSize, 15, false},
	} {
		want := api.Snap{}
		if c.size {
			want = unknown(3, 5, 2, 8, 1)
		}
		want.Err, want.At = c.e, c.at
		x := pixels.New()
		x.Feed(c.s)
		before := x.Snap()
		x.Feed(sign + head(2, 2, 8, 0, "\x00\x00\x00"))
		if after := x.Snap(); !reflect.DeepEqual(before, want) || !reflect.DeepEqual(after, want) {
			t.Errorf("P8: behind error %d: %+v, %+v", c.e, before, after)
		}
	}
}

// Lists are fresh, without spare room, and of their own.
func TestListsAreTheCallers(t *testing.T) {
	for _, size := range []int{1, 7, 16} {
		x := pixels.New()
		x.Feed(sign + head(uint32(size), 3, 8, 0, "\x00\x00\x00"))
		s := x.Snap()
		for i, l := range [][]int{s.Known, s.Pix, s.Show} {
			name := fmt.Sprintf("list %d of %d by 3", i, size)
			if len(l) != cap(l) {
				t.Errorf("P1: %s: %d of %d", name, len(l), cap(l))
			}
			for k := range l {
				if l[k] != 0 {
					t.Errorf("P1: %s shares memory with another", name)
					break
				}
				l[k] = 9
			}
		}
		if again := x.Snap(); !reflect.DeepEqual(again, unknown(size, 3, 0, 8, 0)) {
			t.Errorf("P1: what came out was written into: %+v", again)
		}
	}
}
