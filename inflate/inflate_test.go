package inflate

import (
	"bytes"
	"compress/zlib"
	"math/rand"
	"testing"

	"pixels/api"
	"pixels/head"
	"pixels/rows"
)

var great = head.Head{W: 16, H: 16, Depth: 16, Kind: api.RgbAlpha, Lace: 1}

// packed: a stream of n bytes, each of which may be a filter.
func packed(t *testing.T, r *rand.Rand, n, level int) ([]byte, []byte) {
	t.Helper()
	data := make([]byte, n)
	for i := range data {
		data[i] = byte(r.Intn(1 + r.Intn(4)))
	}
	var b bytes.Buffer
	w, e := zlib.NewWriterLevel(&b, level)
	if e != nil {
		t.Fatal(e)
	}
	w.Write(data[:n/2])
	w.Flush()
	w.Write(data[n/2:])
	w.Close()
	return data, b.Bytes()
}

// Streams of the library, as many bytes as the greatest picture has and fewer.
func TestLibrary(t *testing.T) {
	r := rand.New(rand.NewSource(1))
	for level := -2; level <= 9; level++ {
		for _, n := range []int{0, 1, 2, 300, 2000, rows.MaxBytes - 1, rows.MaxBytes} {
			data, z := packed(t, r, n, level)
			x := Begin()
			to := rows.Begin(great, 0)
			for i, b := range z {
				if x.Ended() {
					t.Fatalf("P6: level %d, %d bytes: ended at %d of %d", level, n, i, len(z))
				}
				if e := x.Take(b, &to); e != api.OK {
					t.Fatalf("P6: level %d, %d bytes: %d at %d", level, n, e, i)
				}
			}
			if !x.Ended() || x.count != n || !bytes.Equal(x.history[:n], data) {
				t.Errorf("P6: level %d, %d bytes: other bytes", level, n)
			}
			if to.Whole() != (n == rows.MaxBytes) {
				t.Errorf("P7: %d bytes: whole: %v", n, to.Whole())
			}
			if e := x.Take(0, &to); e != api.ErrExtra {
				t.Errorf("P6: a byte behind the end: %d", e)
			}
		}
	}
}

// A copy must go its own way.
func TestCopiesHaveNothingInCommon(t *testing.T) {
	r := rand.New(rand.NewSource(2))
	_, z := packed(t, r, 2000, 9)
	for at := range z {
		x := Begin()
		to := rows.Begin(great, 0)
		for _, b := range z[:at] {
			x.Take(b, &to)
		}
		y, other := x, to
		for range 9 {
			y.Take(byte(r.Intn(256)), &other)
		}
		for _, b := range z[at:] {
			if e := x.Take(b, &to); e != api.OK {
				t.Fatalf("P1: a copy made at %d was given bytes: %d", at, e)
			}
		}
		if !x.Ended() {
			t.Fatalf("P1: a copy made at %d was given bytes", at)
		}
	}
}

// Any bytes at all, taken on behind errors too: no panic.
func TestNoise(t *testing.T) {
	r := rand.New(rand.NewSource(3))
	for k := range 3000 {
		x := Begin()
		if k%9 == 0 {
			x = Stream{}
		}
		to := rows.Begin(great, 0)
		for _, b := range []byte{0x78, 0x01} {
			x.Take(b, &to)
		}
		for range 300 {
			x.Take(byte(r.Intn(256))&byte(r.Intn(256)), &to)
		}
	}
}
