package pixels_test

import (
	"math/rand"
	"reflect"
	"testing"

	"pixels/api"
	"pixels/pixels"
)

// one: one of these.
func one[T any](r *rand.Rand, of ...T) T { return of[r.Intn(len(of))] }

// randomHead: mostly one that may be.
func randomHead(r *rand.Rand) string {
	k := one(r, kinds...)
	kind, depth := k.kind, one(r, k.depths...)
	w, h := uint32(1+r.Intn(16)), uint32(1+r.Intn(16))
	last := []byte{0, 0, byte(r.Intn(2))}
	switch r.Intn(30) {
	case 0:
		w = one[uint32](r, 0, 17, 1<<31-1, 1<<31, 1<<32-1)
	case 1:
		h = one[uint32](r, 0, 17, 1<<31-1, 1<<31, 1<<32-1)
	case 2:
		kind = r.Intn(8)
	case 3:
		depth = r.Intn(18)
	case 4:
		last[r.Intn(3)] = byte(r.Intn(4))
	}
	return head(w, h, depth, kind, string(last))
}

func randomBytes(r *rand.Rand, n, most int) string {
	b := make([]byte, n)
	for i := range b {
		b[i] = byte(r.Intn(most))
	}
	return string(b)
}

func randomChunk(r *rand.Rand) string {
	switch r.Intn(12) {
	case 0, 1, 2:
		return chunk("PLTE", randomBytes(r, one(r, 0, 2, 3, 3, 6, 6, 9, 12, 15, 48, 51, 768, 771), 256))
	case 3, 4, 5:
		data := []byte(randomBytes(r, one(r, 0, 1, 1, 2, 2, 2, 3, 4, 5, 6, 6, 6, 16, 17), 3))
		if r.Intn(2) == 0 {
			for i := 0; i < len(data); i += 2 {
				data[i] = 0
			}
		}
		return chunk("tRNS", string(data))
	case 6:
		return chunk("IDAT", "")
	case 7:
		return chunk(one(r, "IEND", "IHDR", "ABCD", "abcd", "a1Cd", "zzZz", "TRNS", "pLTE"), "")
	}
	return chunk("abCd", randomBytes(r, r.Intn(20), 256))
}

func randomFile(r *rand.Rand) []byte {
	s := sign
	if r.Intn(40) > 0 {
		s += randomHead(r)
	}
	for range r.Intn(6) {
		s += randomChunk(r)
	}
	if r.Intn(50) == 0 {
		s += four(1<<31 + uint32(r.Intn(3)) - 1)
	}
	return spoiled(r, []byte(s))
}

// spoiled: the bytes with a bit turned, or cut off, or as they are.
func spoiled(r *rand.Rand, b []byte) []byte {
	switch r.Intn(8) {
	case 0:
		b[r.Intn(len(b))] ^= 1 << r.Intn(8)
	case 1:
		b = b[:r.Intn(len(b))]
	}
	return b
}

// same: a decoder tells of these bytes what it must, however they are cut, and Close and what is fed behind it change nothing.
func same(t *testing.T, r *rand.Rand, b []byte) answer {
	t.Helper()
	want := judge(b)
	x, got := cut(t, r, string(b))
	if !reflect.DeepEqual(got, want) {
		t.Fatalf("P3 to P8: %x: %+v, want %+v", b, got, want)
	}
	if !got.snap.Done {
		closes(t, "a random file", x, len(b), got)
	}
	return got
}

func TestRandomChunks(t *testing.T) {
	r := rand.New(rand.NewSource(2))
	told := map[api.Errno]int{}
	for range 10000 {
		told[same(t, r, randomFile(r)).err]++
	}
	for e := api.OK; e <= api.ErrTrans; e++ {
		if told[e] < 20 {
			t.Errorf("error %d came up %d times only", e, told[e])
		}
	}
}

// randomPicture: a file that is right.
func randomPicture(r *rand.Rand, m image) string {
	s := m.ahead() + idats(r, randomStream(r, m.rows(r)))
	for range r.Intn(2) {
		s += chunk("abCd", "between")
	}
	return s + chunk("IEND", "")
}

// Files that are right, of all kinds, depths and sizes, and what they show behind some of their bytes.
func TestRandomPictures(t *testing.T) {
	r := rand.New(rand.NewSource(4))
	for range 400 {
		m := randomImage(r)
		s := randomPicture(r, m)
		if got := same(t, r, []byte(s)); got.err != api.OK || !got.snap.Done {
			t.Fatalf("P6, P7: %+v: %d at %d", m, got.err, got.at)
		}
		for range 3 {
			same(t, r, []byte(s[:len(m.ahead())+r.Intn(len(s)-len(m.ahead()))]))
		}
	}
}

// spoiledRows: rows with a byte too much or too little, or with another one, mostly a filter.
func spoiledRows(r *rand.Rand, m image, rows string) string {
	switch r.Intn(12) {
	case 0:
		return rows + randomBytes(r, 1+r.Intn(300), 256)
	case 1:
		return rows[:r.Intn(len(rows))]
	case 2, 3:
		at := 0
		for _, l := range m.lines() {
			if at+1+len(l.data) >= len(rows) || r.Intn(3) == 0 {
				break
			}
			at += 1 + len(l.data)
		}
		return rows[:at] + randomBytes(r, 1, 7) + rows[at+1:]
	case 4, 5:
		at := r.Intn(len(rows))
		return rows[:at] + randomBytes(r, 1, 256) + rows[at+1:]
	}
	return rows
}

// Files whose rows or streams are wrong: the error, its place, and what is known all the same.
func TestRandomFaults(t *testing.T) {
	r := rand.New(rand.NewSource(5))
	told := map[api.Errno]int{}
	for range 3000 {
		m := randomImage(r)
		m.w, m.h, m.pix, m.clear = 1+r.Intn(8), 1+r.Intn(8), nil, ""
		m = m.filled(r)
		if m.kind == api.Palette && r.Intn(3) == 0 {
			m.pix[r.Intn(len(m.pix))] = r.Intn(1 << m.depth)
		}
		rows := spoiledRows(r, m, m.rows(r))
		z := randomStream(r, rows)
		if r.Intn(3) > 0 {
			z = wrongStream(r, m.rows(r))
		}
		s := m.ahead() + idats(r, z) + chunk("IEND", "")
		for range r.Intn(2) {
			s += "!"
		}
		got := same(t, r, spoiled(r, []byte(s)))
		told[got.err]++
	}
	for e := api.OK; e <= api.ErrTrail; e++ {
		if told[e] < 20 && (e == api.OK || e == api.ErrCrc || e >= api.ErrZlib) {
			t.Errorf("error %d came up %d times only", e, told[e])
		}
	}
}

// Random bytes: no call panics, and nothing but the signature is looked for.
func TestNoise(t *testing.T) {
	r := rand.New(rand.NewSource(3))
	for range 2000 {
		s := randomBytes(r, 1+r.Intn(100), 256)
		want := judge([]byte(s))
		x := pixels.New()
		if e, at := x.Feed(s); e != want.err || at != want.at {
			t.Fatalf("P4: %x: %d at %d", s, e, at)
		}
		x = pixels.New()
		want = judge([]byte(sign + s))
		if e, at := x.Feed(sign + s); e != want.err || at != want.at {
			t.Fatalf("P4: the signature and %x: %d at %d", s, e, at)
		}
	}
}
