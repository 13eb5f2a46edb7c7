package head

import (
	"encoding/binary"
	"slices"
	"testing"

	"pixels/api"
)

var depths = [7][]int{api.Grey: {1, 2, 4, 8, 16}, api.Rgb: {8, 16}, api.Palette: {1, 2, 4, 8}, api.GreyAlpha: {8, 16}, api.RgbAlpha: {8, 16}}

func data(w, h uint32, depth, kind, packing, filtering, lace byte) [Size]byte {
	var d [Size]byte
	binary.BigEndian.PutUint32(d[0:], w)
	binary.BigEndian.PutUint32(d[4:], h)
	copy(d[8:], []byte{depth, kind, packing, filtering, lace})
	return d
}

func TestFits(t *testing.T) {
	for kind := -300; kind <= 300; kind++ {
		for depth := -300; depth <= 300; depth++ {
			want := kind >= 0 && kind < len(depths) && slices.Contains(depths[kind], depth)
			if Fits(kind, depth) != want {
				t.Errorf("kind %d, depth %d: fits: %v", kind, depth, !want)
			}
		}
	}
}

func TestSamples(t *testing.T) {
	want := [7]int{api.Grey: 1, api.Rgb: 3, api.Palette: 1, api.GreyAlpha: 2, api.RgbAlpha: 4}
	for kind := -2; kind < 9; kind++ {
		n := 0
		if kind >= 0 && kind < len(want) {
			n = want[kind]
		}
		if Samples(kind) != n {
			t.Errorf("samples of kind %d: %d, want %d", kind, Samples(kind), n)
		}
	}
}

func TestLevels(t *testing.T) {
	for depth, want := range map[int]uint32{1: 2, 2: 4, 4: 16, 8: 256, 16: 65536, -1: 0, 99: 0} {
		if got := (Head{Depth: depth}).Levels(); got != want {
			t.Errorf("levels of depth %d: %d, want %d", depth, got, want)
		}
	}
}

func TestReadKindsAndDepths(t *testing.T) {
	for kind := range 256 {
		for depth := range 256 {
			h, e := Read(data(5, 16, byte(depth), byte(kind), 0, 0, 1))
			if !Fits(kind, depth) {
				if e != api.ErrHead || h != (Head{}) {
					t.Errorf("P5: kind %d, depth %d: %v, %d", kind, depth, h, e)
				}
				continue
			}
			if e != api.OK || h != (Head{5, 16, depth, kind, 1}) {
				t.Errorf("P5: kind %d, depth %d: %v, %d", kind, depth, h, e)
			}
		}
	}
}

func TestReadSides(t *testing.T) {
	for _, c := range []struct {
		side uint32
		want api.Errno
	}{
		{0, api.ErrHead}, {1, api.OK}, {16, api.OK}, {17, api.ErrLarge}, {256, api.ErrLarge}, {1 << 16, api.ErrLarge}, {1 << 24, api.ErrLarge},
		{1<<31 - 1, api.ErrLarge}, {1 << 31, api.ErrHead}, {1<<31 + 1, api.ErrHead}, {1<<32 - 1, api.ErrHead},
	} {
		if _, e := Read(data(c.side, 1, 8, 0, 0, 0, 0)); e != c.want {
			t.Errorf("P5: width %d: %d, want %d", c.side, e, c.want)
		}
		if _, e := Read(data(1, c.side, 8, 0, 0, 0, 0)); e != c.want {
			t.Errorf("P5: height %d: %d, want %d", c.side, e, c.want)
		}
		// one wrong side is enough for ErrHead, however large the other one is
		if _, e := Read(data(17, c.side, 8, 0, 0, 0, 0)); c.want == api.ErrHead && e != api.ErrHead {
			t.Errorf("P5: width 17, height %d: %d", c.side, e)
		}
	}
}

func TestReadLastThree(t *testing.T) {
	for b := range 256 {
		for i := range 3 {
			d := data(1, 1, 8, 0, 0, 0, 0)
			d[10+i] = byte(b)
			want := api.ErrHead
			if b == 0 || i == 2 && b == 1 {
				want = api.OK
			}
			if h, e := Read(d); e != want || e == api.OK && i == 2 && h.Lace != b {
				t.Errorf("P5: byte %d is %d: %v, %d, want %d", 10+i, b, h, e, want)
			}
			d[3] = 17
			if _, e := Read(d); want == api.ErrHead && e != api.ErrHead {
				t.Errorf("P5: byte %d is %d, and too large: %d", 10+i, b, e)
			}
		}
	}
}

func TestDataIsRead(t *testing.T) {
	for kind := range depths {
		for _, depth := range depths[kind] {
			for _, side := range []int{1, 2, 9, 15, 16} {
				for lace := range 2 {
					want := Head{W: side, H: 17 - side, Depth: depth, Kind: kind, Lace: lace}
					if got, e := Read(want.Data()); e != api.OK || got != want {
						t.Errorf("P5: %+v is read as %+v, %d", want, got, e)
					}
				}
			}
		}
	}
	if got, want := (Head{W: 0x01020304, H: 0x05060708, Depth: 16, Kind: 6, Lace: 1}).Data(), data(0x01020304, 0x05060708, 16, 6, 0, 0, 1); got != want {
		t.Errorf("P5: %v, want %v", got, want)
	}
}
