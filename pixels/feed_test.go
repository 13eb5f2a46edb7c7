package pixels_test

import (
	"math/rand"
	"reflect"
	"testing"

	"pixels/api"
	"pixels/pixels"
)

// smallest: the document's first example.
const smallest = sign + "\x00\x00\x00\x0dIHDR\x00\x00\x00\x01\x00\x00\x00\x01\x08\x00\x00\x00\x00\x3a\x7e\x9b\x55" +
	"\x00\x00\x00\x0dIDAT\x08\x1d\x01\x02\x00\xfd\xff\x00\x07\x00\x09\x00\x08\x0a\x4a\x5a\x7e" +
	"\x00\x00\x00\x00IEND\xae\x42\x60\x82"

func fed(t *testing.T, s string) (*pixels.Decoder, api.Errno, int) {
	t.Helper()
	x := pixels.New()
	e, at := x.Feed(s)
	return x, e, at
}

func TestWholeFile(t *testing.T) {
	for i := range len(smallest) {
		x, e, at := fed(t, smallest[:i])
		if e != api.OK || at != 0 || x.Snap().Done {
			t.Errorf("P3: %d bytes: %d at %d", i, e, at)
		}
		if e, at = x.Close(); e != api.ErrCut || at != i {
			t.Errorf("P3: Close behind %d bytes: %d at %d", i, e, at)
		}
		before := x.Snap()
		e, at = x.Feed(smallest[i:])
		if e != api.ErrCut || at != i || before.Done || !reflect.DeepEqual(x.Snap(), before) {
			t.Errorf("P3: fed behind Close, %d bytes: %d at %d", i, e, at)
		}
	}
	x, e, at := fed(t, smallest)
	if e != api.OK || at != 0 || !x.Snap().Done {
		t.Errorf("P3: the whole file: %d at %d", e, at)
	}
}

// Close behind the end changes nothing: a byte behind it is told as ever.
func TestCloseAtTheEnd(t *testing.T) {
	x, _, _ := fed(t, smallest)
	before := x.Snap()
	for range 2 {
		if e, at := x.Close(); e != api.OK || at != 0 || !reflect.DeepEqual(x.Snap(), before) {
			t.Errorf("P3: Close at the end: %d at %d", e, at)
		}
	}
	if e, at := x.Feed(""); e != api.OK || at != 0 || !x.Snap().Done {
		t.Errorf("P3: nothing behind the end: %d at %d", e, at)
	}
	for range 2 {
		if e, at := x.Feed("ab"); e != api.ErrTrail || at != 70 {
			t.Errorf("P4: a byte behind the end: %d at %d", e, at)
		}
		if s := x.Snap(); s.Done || s.Err != api.ErrTrail || s.At != 70 {
			t.Errorf("P8: behind ErrTrail: %+v", s)
		}
		if e, at := x.Close(); e != api.ErrTrail || at != 70 {
			t.Errorf("P3: Close behind ErrTrail: %d at %d", e, at)
		}
	}
}

func TestTrail(t *testing.T) {
	for b := range 256 {
		x, e, at := fed(t, smallest+string([]byte{byte(b)})+smallest)
		if e != api.ErrTrail || at != 70 || x.Snap().Done {
			t.Errorf("P4: behind IEND: %d at %d", e, at)
		}
	}
}

func TestCloseOfNothing(t *testing.T) {
	x := pixels.New()
	if e, at := x.Close(); e != api.ErrCut || at != 0 {
		t.Errorf("P3: Close of nothing: %d at %d", e, at)
	}
	x, _, _ = fed(t, smallest[:20])
	if e, at := x.Close(); e != api.ErrCut || at != 20 {
		t.Errorf("P3: the example: %d at %d", e, at)
	}
}

// A decoder that was not made by New has no right to panic either.
func TestBareDecoders(t *testing.T) {
	var x pixels.Decoder
	if e, at := x.Feed(smallest); e != api.OK || at != 0 || !x.Snap().Done {
		t.Errorf("P1: a bare decoder: %d at %d", e, at)
	}
	var none *pixels.Decoder
	e, at := none.Feed("x")
	f, bt := none.Close()
	if e != api.OK || at != 0 || f != api.OK || bt != 0 || !reflect.DeepEqual(none.Snap(), api.Snap{}) {
		t.Errorf("P1: no decoder: %d, %d, %d, %d", e, at, f, bt)
	}
}

func TestDecodersHaveNothingInCommon(t *testing.T) {
	x := pixels.New()
	y := pixels.New()
	z := pixels.New()
	wrong := smallest[:20] + "\x05" + smallest[21:]
	for i := range len(smallest) {
		x.Feed(smallest[i : i+1])
		y.Feed(wrong[i : i+1])
	}
	if s := x.Snap(); s.Err != api.OK || !s.Done || s.W != 1 {
		t.Errorf("P1: one of three: %+v", s)
	}
	if s := y.Snap(); s.Err != api.ErrCrc || s.At != 32 || s.W != 0 {
		t.Errorf("P1: another of three: %+v", s)
	}
	if s := z.Snap(); !reflect.DeepEqual(s, api.Snap{}) {
		t.Errorf("P1: the third, which was fed nothing: %+v", s)
	}
}

// Any bytes at all: each call ends, and the answer hangs on the bytes alone.
func TestAnyBytes(t *testing.T) {
	r := rand.New(rand.NewSource(1))
	for range 3000 {
		b := []byte(smallest)
		for range 1 + r.Intn(4) {
			b[r.Intn(len(b))] = byte(r.Intn(256))
		}
		if r.Intn(5) == 0 {
			b = b[:r.Intn(len(b))]
		}
		_, one := cut(t, r, string(b))
		_, other := cut(t, r, string(b))
		if !reflect.DeepEqual(one, other) {
			t.Fatalf("P3: %x: %+v, %+v", b, one, other)
		}
	}
}
