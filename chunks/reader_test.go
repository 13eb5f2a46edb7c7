package chunks

import (
	"encoding/binary"
	"hash/crc32"
	"testing"

	"pixels/api"
	"pixels/head"
)

func chunk(kind, data string) string {
	b := binary.BigEndian.AppendUint32(nil, uint32(len(data)))
	b = append(b, kind+data...)
	return string(binary.BigEndian.AppendUint32(b, crc32.ChecksumIEEE([]byte(kind+data))))
}

func read(t *testing.T, s string) *Reader {
	t.Helper()
	x := &Reader{}
	for i := range len(s) {
		if e := x.Take(s[i]); e != api.OK {
			t.Fatalf("error %d at %d", e, i)
		}
	}
	return x
}

func TestColoursAreKept(t *testing.T) {
	h := chunk("IHDR", "\x00\x00\x00\x03\x00\x00\x00\x02\x02\x03\x00\x00\x00")
	x := read(t, sign+h+chunk("PLTE", "abcdefghi")+chunk("tRNS", "\x80\xff"))
	if x.colours != 3 || string(x.palette[:9]) != "abcdefghi" || x.palette[9] != 0 {
		t.Errorf("P5: the palette: %d colours, %q", x.colours, x.palette[:10])
	}
	if string(x.clear[:3]) != "\x80\xff\x00" {
		t.Errorf("P5: the alphas: %q", x.clear[:3])
	}
}

// The greatest palette, with an alpha for each colour.
func TestAllColoursAreKept(t *testing.T) {
	h := chunk("IHDR", "\x00\x00\x00\x03\x00\x00\x00\x02\x08\x03\x00\x00\x00")
	data := make([]byte, 768)
	for i := range data {
		data[i] = byte(1 + i%251)
	}
	x := read(t, sign+h+chunk("PLTE", string(data))+chunk("tRNS", string(data[:256])))
	if x.colours != 256 || string(x.palette[:]) != string(data) || string(x.clear[:]) != string(data[:256]) {
		t.Errorf("P5: %d colours, %v, %v", x.colours, x.palette, x.clear)
	}
}

func TestClearSamplesAreKept(t *testing.T) {
	h := chunk("IHDR", "\x00\x00\x00\x03\x00\x00\x00\x02\x10\x02\x00\x00\x00")
	x := read(t, sign+h+chunk("tRNS", "\x01\x02\xff\xfe\x00\x07"))
	for i, want := range []uint32{0x0102, 0xfffe, 7, 0} {
		if got := x.clearSample(i); got != want {
			t.Errorf("P5: sample %d: %d, want %d", i, got, want)
		}
	}
	for _, i := range []int{-1, clearSize / 2, 1 << 40} {
		if x.clearSample(i) != 0 {
			t.Errorf("P1: sample %d", i)
		}
	}
}

func TestHeadIsThereBehindItsSum(t *testing.T) {
	s := sign + chunk("IHDR", "\x00\x00\x00\x03\x00\x00\x00\x02\x10\x02\x00\x00\x01")
	x := read(t, s[:len(s)-1])
	if x.Head() != (head.Head{}) {
		t.Errorf("P8: ahead of its sum: %v", x.Head())
	}
	x.Take(s[len(s)-1])
	if x.Head() != (head.Head{W: 3, H: 2, Depth: 16, Kind: api.Rgb, Lace: 1}) {
		t.Errorf("P8: behind its sum: %v", x.Head())
	}
}

// A copy must go its own way.
func TestCopiesHaveNothingInCommon(t *testing.T) {
	h := chunk("IHDR", "\x00\x00\x00\x03\x00\x00\x00\x02\x02\x03\x00\x00\x00")
	p := chunk("PLTE", "abcdefghi")
	x := read(t, sign+h+p[:10])
	y := *x
	for i := 10; i < len(p); i++ {
		x.Take(p[i])
	}
	y.Take('!')
	if string(x.palette[:9]) != "abcdefghi" || string(y.palette[:4]) != "ab!\x00" {
		t.Errorf("P1: %q, %q", x.palette[:9], y.palette[:4])
	}
}
