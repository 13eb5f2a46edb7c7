package pixels_test

import (
	"bytes"
	"compress/zlib"
	"encoding/binary"
	"hash/crc32"
	"math/rand"
	"reflect"
	"strings"
	"testing"

	"pixels/api"
	"pixels/pixels"
)

const sign = "\x89PNG\r\n\x1a\n"

// kinds and their depths, as the document names them.
var kinds = []struct {
	kind   int
	depths []int
}{{api.Grey, []int{1, 2, 4, 8, 16}}, {api.Rgb, []int{8, 16}}, {api.Palette, []int{1, 2, 4, 8}}, {api.GreyAlpha, []int{8, 16}}, {api.RgbAlpha, []int{8, 16}}}

// forKinds: each kind with each depth that it may have.
func forKinds(f func(kind, depth int)) {
	for _, k := range kinds {
		for _, d := range k.depths {
			f(k.kind, d)
		}
	}
}

func four(n uint32) string {
	return string(binary.BigEndian.AppendUint32(nil, n))
}

func chunk(kind, data string) string {
	return four(uint32(len(data))) + kind + data + four(crc32.ChecksumIEEE([]byte(kind+data)))
}

// opened: a chunk as far as its type.
func opened(length uint32, kind string) string {
	return four(length) + kind
}

func head(w, h uint32, depth, kind int, last string) string {
	return chunk("IHDR", four(w)+four(h)+string([]byte{byte(depth), byte(kind)})+last)
}

// start: signature and header of a picture of one pixel.
func start(kind, depth int) string {
	return sign + head(1, 1, depth, kind, "\x00\x00\x00")
}

// startSize: at this place stands the first byte behind start.
const startSize = 33

// atType: the place of a chunk's last byte of its type, if the chunk begins at place p.
func atType(p int) int { return p + 7 }

// colours: PLTE of n colours.
func colours(n int) string { return chunk("PLTE", strings.Repeat("abc", n)) }

// stream: a whole stream of these bytes.
func stream(t *testing.T, rows string) string {
	t.Helper()
	var b bytes.Buffer
	z := zlib.NewWriter(&b)
	if _, e := z.Write([]byte(rows)); e != nil {
		t.Fatal(e)
	}
	if e := z.Close(); e != nil {
		t.Fatal(e)
	}
	return b.String()
}

// answer: all that a decoder tells.
type answer struct {
	err  api.Errno
	at   int
	snap api.Snap
}

func answerOf(t *testing.T, x *pixels.Decoder, e api.Errno, at int) answer {
	t.Helper()
	s := x.Snap()
	if s.Err != e || s.At != at {
		t.Errorf("P8: Snap tells %d at %d, the call %d at %d", s.Err, s.At, e, at)
	}
	return answer{e, at, s}
}

// cut: feeds s in pieces of random lengths, empty ones among them.
func cut(t *testing.T, r *rand.Rand, s string) (*pixels.Decoder, answer) {
	t.Helper()
	x := pixels.New()
	e, at := x.Feed("")
	most := 1 + r.Intn(40)
	for len(s) > 0 {
		n := min(r.Intn(most+1), len(s))
		e, at = x.Feed(s[:n])
		s = s[n:]
		if r.Intn(4) == 0 {
			x.Snap()
		}
	}
	return x, answerOf(t, x, e, at)
}

// closes: Close behind the bytes s, if they end ahead of IEND's end, and what is fed then.
func closes(t *testing.T, name string, x *pixels.Decoder, size int, was answer) {
	t.Helper()
	want := was
	if was.err == api.OK {
		want.err, want.at = api.ErrCut, size
		want.snap.Err, want.snap.At = api.ErrCut, size
	}
	e, at := x.Close()
	got := answerOf(t, x, e, at)
	if !reflect.DeepEqual(got, want) {
		t.Errorf("P3: %s: Close: %+v, want %+v", name, got, want)
	}
	e, at = x.Feed(sign + head(2, 2, 8, 0, "\x00\x00\x00"))
	got = answerOf(t, x, e, at)
	e, at = x.Close()
	again := answerOf(t, x, e, at)
	if !reflect.DeepEqual(got, want) || !reflect.DeepEqual(again, want) {
		t.Errorf("P3: %s: behind Close: %+v, %+v, want %+v", name, got, again, want)
	}
}

// tells: a decoder that is fed s tells e at place at, at that byte and no sooner, however s is cut, and goes on telling it. s has no whole IEND.
func tells(t *testing.T, name, s string, e api.Errno, at int) {
	t.Helper()
	x := pixels.New()
	for i := range len(s) {
		wantE, wantAt := api.OK, 0
		if e != api.OK && i >= at {
			wantE, wantAt = e, at
		}
		gotE, gotAt := x.Feed(s[i : i+1])
		if gotE != wantE || gotAt != wantAt {
			t.Errorf("P3, P4, P5: %s: behind byte %d: %d at %d, want %d at %d", name, i, gotE, gotAt, wantE, wantAt)
			return
		}
	}
	one := answerOf(t, x, e, at)
	if one.snap.Done {
		t.Errorf("P8: %s: done", name)
	}
	r := rand.New(rand.NewSource(int64(len(s))))
	y, many := cut(t, r, s)
	if !reflect.DeepEqual(many, one) {
		t.Errorf("P3: %s: cut otherwise: %+v, want %+v", name, many, one)
	}
	z := pixels.New()
	gotE, gotAt := z.Feed(s)
	if whole := answerOf(t, z, gotE, gotAt); !reflect.DeepEqual(whole, one) {
		t.Errorf("P3: %s: in one piece: %+v, want %+v", name, whole, one)
	}
	closes(t, name, x, len(s), one)
	closes(t, name, y, len(s), one)
	closes(t, name, z, len(s), one)
}
