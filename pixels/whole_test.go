package pixels_test

import (
	"encoding/binary"
	"hash/crc32"
	"math/rand"
	"reflect"
	"regexp"
	"testing"

	"pixels/api"
	"pixels/pixels"
)

// A second reading of P2 to P5, of all bytes at once, up to the first IDAT's type: what the decoder tells of random files must be the same.

var wellMade = regexp.MustCompile(`^[a-zA-Z]{2}[A-Z][a-zA-Z]$`)

// judged: the first error, its place, and the header if it was accepted; end: where the first IDAT's type ends (or all bytes do).
type judged struct {
	err  api.Errno
	at   int
	head []byte
	end  int
}

func judge(s []byte) judged {
	for i := range min(len(s), 8) {
		if s[i] != sign[i] {
			return judged{api.ErrSign, i, nil, len(s)}
		}
	}
	seen := map[string]int{}
	var h []byte
	p := 8
	for {
		if len(s) < p+4 {
			return judged{api.OK, 0, h, len(s)}
		}
		n := int64(binary.BigEndian.Uint32(s[p:]))
		if n > 1<<31-1 {
			return judged{api.ErrLen, p + 3, h, len(s)}
		}
		if len(s) < p+8 {
			return judged{api.OK, 0, h, len(s)}
		}
		kind := string(s[p+4 : p+8])
		if e := judgeType(kind, n, h, seen); e != api.OK {
			return judged{e, p + 7, h, len(s)}
		}
		if kind == "IDAT" {
			return judged{api.OK, 0, h, p + 8}
		}
		q := int64(p) + 8 + n
		if int64(len(s)) < q+4 {
			return judged{api.OK, 0, h, len(s)}
		}
		data := s[p+8 : q]
		if binary.BigEndian.Uint32(s[q:]) != crc32.ChecksumIEEE(s[p+4:q]) {
			return judged{api.ErrCrc, int(q) + 3, h, len(s)}
		}
		if e := judgeData(kind, data, h); e != api.OK {
			return judged{e, int(q) + 3, h, len(s)}
		}
		if kind == "IHDR" {
			h = data
		}
		seen[kind] = 1 + len(data)/3
		p = int(q) + 4
	}
}

func judgeType(kind string, n int64, h []byte, seen map[string]int) api.Errno {
	if !wellMade.MatchString(kind) {
		return api.ErrType
	}
	if h == nil {
		return orderOrSize(kind != "IHDR", n != 13)
	}
	depth, colour := h[8], h[9]
	palette, clear := seen["PLTE"] > 0, seen["tRNS"] > 0
	switch kind {
	case "IHDR", "IEND":
		return api.ErrOrder
	case "PLTE":
		return orderOrSize(palette || clear || colour == 0 || colour == 4, n == 0 || n > 768 || n%3 > 0 || colour == 3 && n > 3<<depth)
	case "tRNS":
		return orderOrSize(clear || colour == 4 || colour == 6 || colour == 3 && !palette,
			colour == 0 && n != 2 || colour == 2 && n != 6 || colour == 3 && (n == 0 || n > int64(seen["PLTE"]-1)))
	case "IDAT":
		return orderOrSize(colour == 3 && !palette, false)
	}
	if kind[0] < 'a' {
		return api.ErrType
	}
	return api.OK
}

func orderOrSize(order, size bool) api.Errno {
	if order {
		return api.ErrOrder
	}
	if size {
		return api.ErrSize
	}
	return api.OK
}

func judgeData(kind string, data, h []byte) api.Errno {
	if kind == "tRNS" && h[9] != 3 {
		for i := 0; i < len(data); i += 2 {
			if int(binary.BigEndian.Uint16(data[i:])) > 1<<h[8]-1 {
				return api.ErrTrans
			}
		}
	}
	if kind != "IHDR" {
		return api.OK
	}
	w, l := binary.BigEndian.Uint32(data), binary.BigEndian.Uint32(data[4:])
	legal := map[[2]byte]bool{}
	forKinds(func(kind, depth int) { legal[[2]byte{byte(kind), byte(depth)}] = true })
	if int32(w) <= 0 || int32(l) <= 0 || !legal[[2]byte{data[9], data[8]}] || data[10] != 0 || data[11] != 0 || data[12] > 1 {
		return api.ErrHead
	}
	if w > 16 || l > 16 {
		return api.ErrLarge
	}
	return api.OK
}

// one: one of these.
func one[T any](r *rand.Rand, of ...T) T { return of[r.Intn(len(of))] }

// randomHead: mostly one that may be.
func randomHead(r *rand.Rand) string {
	k := one(r, kinds...)
	kind, depth := k.kind, one(r, k.depths...)
	w, h := uint32(1+r.Intn(16)), uint32(1+r.Intn(16))
	last := []byte{0, 0, byte(r.Intn(2))}
	switch r.Intn(30) {
	case 0:
		w = one[uint32](r, 0, 17, 1<<31-1, 1<<31, 1<<32-1)
	case 1:
		h = one[uint32](r, 0, 17, 1<<31-1, 1<<31, 1<<32-1)
	case 2:
		kind = r.Intn(8)
	case 3:
		depth = r.Intn(18)
	case 4:
		last[r.Intn(3)] = byte(r.Intn(4))
	}
	return head(w, h, depth, kind, string(last))
}

func randomBytes(r *rand.Rand, n, most int) string {
	b := make([]byte, n)
	for i := range b {
		b[i] = byte(r.Intn(most))
	}
	return string(b)
}

func randomChunk(r *rand.Rand) string {
	switch r.Intn(12) {
	case 0, 1, 2:
		return chunk("PLTE", randomBytes(r, one(r, 0, 2, 3, 3, 6, 6, 9, 12, 15, 48, 51, 768, 771), 256))
	case 3, 4, 5:
		data := []byte(randomBytes(r, one(r, 0, 1, 1, 2, 2, 2, 3, 4, 5, 6, 6, 6, 16, 17), 3))
		if r.Intn(2) == 0 {
			for i := 0; i < len(data); i += 2 {
				data[i] = 0
			}
		}
		return chunk("tRNS", string(data))
	case 6:
		return chunk("IDAT", "")
	case 7:
		return chunk(one(r, "IEND", "IHDR", "ABCD", "abcd", "a1Cd", "zzZz", "TRNS", "pLTE"), "")
	}
	return chunk("abCd", randomBytes(r, r.Intn(20), 256))
}

func randomFile(r *rand.Rand) []byte {
	s := sign
	if r.Intn(40) > 0 {
		s += randomHead(r)
	}
	for range r.Intn(6) {
		s += randomChunk(r)
	}
	if r.Intn(50) == 0 {
		s += four(1<<31 + uint32(r.Intn(3)) - 1)
	}
	b := []byte(s)
	switch r.Intn(8) {
	case 0:
		b[r.Intn(len(b))] ^= 1 << r.Intn(8)
	case 1:
		b = b[:r.Intn(len(b))]
	}
	return b
}

func TestRandomFiles(t *testing.T) {
	r := rand.New(rand.NewSource(2))
	told := map[api.Errno]int{}
	for range 20000 {
		b := randomFile(r)
		want := judge(b)
		b = b[:want.end]
		told[want.err]++
		snap := api.Snap{}
		if want.head != nil {
			h := want.head
			snap = unknown(int(h[3]), int(h[7]), int(h[9]), int(h[8]), int(h[12]))
		}
		snap.Err, snap.At = want.err, want.at
		x, got := cut(t, r, string(b))
		if !reflect.DeepEqual(got, answer{want.err, want.at, snap}) {
			t.Fatalf("P3, P4, P5, P8: %x: %+v, want %+v", b, got, want)
		}
		closes(t, "a random file", x, len(b), got)
	}
	for e := api.OK; e <= api.ErrTrans; e++ {
		if told[e] < 20 {
			t.Errorf("error %d came up %d times only", e, told[e])
		}
	}
}

// Random bytes: no call panics, and nothing but the signature is looked for.
func TestNoise(t *testing.T) {
	r := rand.New(rand.NewSource(3))
	for range 2000 {
		s := randomBytes(r, 1+r.Intn(100), 256)
		want := judge([]byte(s))
		x := pixels.New()
		if e, at := x.Feed(s); e != want.err || at != want.at {
			t.Fatalf("P4: %x: %d at %d", s, e, at)
		}
		x = pixels.New()
		want = judge([]byte(sign + s))
		if e, at := x.Feed(sign + s); e != want.err || at != want.at {
			t.Fatalf("P4: the signature and %x: %d at %d", s, e, at)
		}
	}
}
