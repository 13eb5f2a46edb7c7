package chunks

import (
	"encoding/binary"
	"hash/crc32"
	"testing"

	"pixels/api"
	"pixels/head"
)

func chunk(kind, data string) string {
	b := binary.BigEndian.AppendUint32(nil, uint32(len(data)))
	b = append(b, kind+data...)
	return string(binary.BigEndian.AppendUint32(b, crc32.ChecksumIEEE([]byte(kind+data))))
}

func read(t *testing.T, s string) *Reader {
	t.Helper()
	x := &Reader{}
	for i := range len(s) {
		if e := x.Take(s[i]); e != api.OK {
			t.Fatalf("error %d at %d", e, i)
		}
	}
	return x
}

// entry: colour i of the palette that was read.
func entry(x *Reader, i int) [4]int {
	return x.table.Colour(x.head, [4]int{i})
}

// wide: a colour of bytes.
func wide(r, g, b, a byte) [4]int {
	return [4]int{257 * int(r), 257 * int(g), 257 * int(b), 257 * int(a)}
}

func TestColoursAreKept(t *testing.T) {
	h := chunk("IHDR", "\x00\x00\x00\x03\x00\x00\x00\x02\x02\x03\x00\x00\x00")
	x := read(t, sign+h+chunk("PLTE", "abcdefghi")+chunk("tRNS", "\x80\xfe"))
	if x.table.Colours() != 3 {
		t.Errorf("P5: the palette: %d colours", x.table.Colours())
	}
	for i, want := range [][4]int{wide('a', 'b', 'c', 0x80), wide('d', 'e', 'f', 0xfe), wide('g', 'h', 'i', 255)} {
		if got := entry(x, i); got != want {
			t.Errorf("P5: colour %d: %v, want %v", i, got, want)
		}
	}
}

// The greatest palette, with an alpha for each colour.
func TestAllColoursAreKept(t *testing.T) {
	h := chunk("IHDR", "\x00\x00\x00\x03\x00\x00\x00\x02\x08\x03\x00\x00\x00")
	data := make([]byte, 768)
	for i := range data {
		data[i] = byte(1 + i%251)
	}
	x := read(t, sign+h+chunk("PLTE", string(data))+chunk("tRNS", string(data[:256])))
	if x.table.Colours() != 256 {
		t.Errorf("P5: %d colours", x.table.Colours())
	}
	for i := range 256 {
		if got := entry(x, i); got != wide(data[3*i], data[3*i+1], data[3*i+2], data[i]) {
			t.Errorf("P5: colour %d: %v", i, got)
		}
	}
}

func TestClearSamplesAreKept(t *testing.T) {
	h := chunk("IHDR", "\x00\x00\x00\x03\x00\x00\x00\x02\x10\x02\x00\x00\x00")
	x := read(t, sign+h+chunk("tRNS", "\x01\x02\xff\xfe\x00\x07"))
	for i, want := range []int{0x0102, 0xfffe, 7, 0} {
		if got := x.table.ClearSample(i); got != want {
			t.Errorf("P5: sample %d: %d, want %d", i, got, want)
		}
	}
}

func TestHeadIsThereBehindItsSum(t *testing.T) {
	s := sign + chunk("IHDR", "\x00\x00\x00\x03\x00\x00\x00\x02\x10\x02\x00\x00\x01")
	x := read(t, s[:len(s)-1])
	if x.Head() != (head.Head{}) {
		t.Errorf("P8: ahead of its sum: %v", x.Head())
	}
	x.Take(s[len(s)-1])
	if x.Head() != (head.Head{W: 3, H: 2, Depth: 16, Kind: api.Rgb, Lace: 1}) {
		t.Errorf("P8: behind its sum: %v", x.Head())
	}
}

// A copy must go its own way.
func TestCopiesHaveNothingInCommon(t *testing.T) {
	h := chunk("IHDR", "\x00\x00\x00\x03\x00\x00\x00\x02\x02\x03\x00\x00\x00")
	p := chunk("PLTE", "abcdefghi")
	x := read(t, sign+h+p[:10])
	y := *x
	for i := 10; i < len(p); i++ {
		x.Take(p[i])
	}
	y.Take('!')
	if entry(x, 0) != wide('a', 'b', 'c', 255) || entry(x, 2) != wide('g', 'h', 'i', 255) {
		t.Errorf("P1: %v, %v", entry(x, 0), entry(x, 2))
	}
	if entry(&y, 0) != wide('a', 'b', '!', 255) || entry(&y, 2) != wide(0, 0, 0, 255) {
		t.Errorf("P1: %v, %v", entry(&y, 0), entry(&y, 2))
	}
}
