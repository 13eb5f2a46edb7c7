package deflate

import (
	"bytes"
	"compress/zlib"
	"io"
	"math"
	"math/rand"
	"testing"

	"pixels/api"
)

func choice(part, window int, kinds ...int) api.Choice {
	return api.Choice{Kinds: kinds, Part: part, Window: window}
}

// What a stream is, bit by bit.
func TestBytes(t *testing.T) {
	for _, c := range []struct {
		name string
		data string
		ch   api.Choice
		want string
	}{
		{"stored", "\x00\x07", choice(9, 0, 0), "\x08\x1d\x01\x02\x00\xfd\xff\x00\x07\x00\x09\x00\x08"},
		{"stored, two blocks", "\x00\x07", choice(1, 7, 0), "\x78\x01\x00\x01\x00\xfe\xff\x00\x01\x01\x00\xfe\xff\x07\x00\x09\x00\x08"},
		{"fixed, of no bytes", "", choice(9, 0, 1), "\x08\x1d\x03\x00\x00\x00\x00\x01"},
		{"fixed, one byte of 8 bits", "a", choice(9, 1, 1), "\x18\x19\x4b\x04\x00\x00\x62\x00\x62"},
		{"fixed, one byte of 9 bits", "\xff", choice(9, 2, 1), "\x28\x15\xfb\x0f\x00\x01\x00\x01\x00"},
		{"fixed, then stored", "ab", choice(1, 3, 1, 0), "\x38\x11\x4a\x04\x04\x01\x00\xfe\xff\x62\x01\x26\x00\xc4"},
	} {
		if got := string(Stream([]byte(c.data), c.ch)); got != c.want {
			t.Errorf("P11, P12: %s: %x, want %x", c.name, got, c.want)
		}
	}
}

func TestLibrary(t *testing.T) {
	r := rand.New(rand.NewSource(1))
	for range 2000 {
		data := make([]byte, r.Intn(1+r.Intn(2079)))
		for i := range data {
			data[i] = byte(r.Intn(256))
		}
		ch := choice(1+r.Intn(1+len(data)), r.Intn(8), r.Intn(3), r.Intn(3), r.Intn(3))
		z := Stream(data, ch)
		x, e := zlib.NewReader(bytes.NewReader(z))
		if e != nil {
			t.Fatalf("P11: %+v: %v", ch, e)
		}
		got, e := io.ReadAll(x)
		if e != nil || !bytes.Equal(got, data) {
			t.Fatalf("P12: %+v: %v, %d bytes of %d", ch, e, len(got), len(data))
		}
		if int(z[0]) != 8+16*ch.Window || z[1] > 30 {
			t.Fatalf("P11: window %d: %x", ch.Window, z[:2])
		}
	}
}

// Choices that are none make no panic, and parts of any size end.
func TestNone(t *testing.T) {
	for _, n := range []int{math.MinInt, -1, 0, 1, 2, 3, 4, 1 << 32, math.MaxInt} {
		Stream([]byte("abc"), choice(n, n))
		Stream([]byte("abc"), choice(n, 0, n, n))
		Stream(nil, choice(n, n, n))
	}
	data := []byte("abcdef")
	Stream(data[:3], choice(2, 0, 0, 1))
	if string(data) != "abcdef" {
		t.Error("P1: what was handed in was written into")
	}
}
