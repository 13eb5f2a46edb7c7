package pixels_test

import (
	"fmt"
	"math/rand"
	"strings"
	"testing"

	"pixels/api"
	"pixels/pixels"
)

// grey: a grey picture of so many pixels, depth 8.
func grey(w, h int) image { return image{w: w, h: h, kind: api.Grey, depth: 8} }

// streamTells: a stream of that picture tells e at its byte at, and no sooner.
func streamTells(t *testing.T, name string, m image, z string, e api.Errno, at int) {
	t.Helper()
	ahead := m.ahead() + opened(uint32(len(z)+100), "IDAT")
	if e == api.OK {
		tells(t, name, ahead+z, e, 0)
		return
	}
	tells(t, name, ahead+z, e, len(ahead)+at)
}

// The header: all pairs of bytes.
func TestStreamHeads(t *testing.T) {
	ahead := grey(1, 1).ahead() + opened(100, "IDAT")
	for c := range 256 {
		x := pixels.New()
		if e, at := x.Feed(ahead + string([]byte{byte(c)})); e != api.OK || at != 0 {
			t.Fatalf("P6: a first byte of %d: %d at %d", c, e, at)
		}
		for f := range 256 {
			wantE, wantAt := api.OK, 0
			if c&15 != 8 || c > 127 || (256*c+f)%31 != 0 || f/32%2 == 1 {
				wantE, wantAt = api.ErrZlib, len(ahead)+1
			}
			x := pixels.New()
			x.Feed(ahead)
			if e, at := x.Feed(string([]byte{byte(c), byte(f)})); e != wantE || at != wantAt {
				t.Errorf("P6: %02x %02x: %d at %d, want %d at %d", c, f, e, at, wantE, wantAt)
			}
		}
	}
}

// at256: codes in which 256 has one bit, 65 two, and the others that are named two.
func at256(other int) []int {
	l := make([]int, 286)
	l[65], l[256], l[other] = 2, 1, 2
	return l
}

// counts: three numbers as they are written.
func (w *bits) counts(literals, distances, shorts int) {
	w.begin(false, 2)
	w.num(literals, 5)
	w.num(distances, 5)
	w.num(shorts, 4)
}

// shortCodes: counts of literals and distances, and codes of lengths: 0 is 00, 1 is 01, 2 is 100, 16 is 101, 17 is 110, 18 is 111.
func (w *bits) shortCodes(literals, distances int) book {
	w.counts(literals-257, distances-1, 14)
	l := make([]int, 19)
	l[0], l[1], l[2], l[16], l[17], l[18] = 2, 2, 3, 3, 3, 3
	for _, s := range shortOrder[:18] {
		w.num(l[s], 3)
	}
	return newBook(l)
}

// lengths: literals of which 0 to 255 have no code, then the lengths of the others.
func (w *bits) lengths(literals, distances int, others ...int) {
	b := w.shortCodes(literals, distances)
	w.symbol(b, 18)
	w.num(127, 7)
	w.symbol(b, 18)
	w.num(256-138-11, 7)
	for _, l := range others {
		w.symbol(b, l)
	}
}

// Each error at the very bit that shows it: that bit is the last one that is written, and stands at each place of a byte.
func TestStreamErrors(t *testing.T) {
	r := rand.New(rand.NewSource(1))
	fixedLiteral, fixedDistance := fixedBooks()
	for _, c := range []struct {
		name  string
		e     api.Errno
		write func(w *bits)
	}{
		{"kind 3", api.ErrBlock, func(w *bits) { w.begin(false, 3) }},
		{"kind 3, last", api.ErrBlock, func(w *bits) { w.begin(true, 3) }},
		{"sizes of 65536", api.ErrBlock, func(w *bits) { w.begin(true, 0); w.align(); w.num(2, 16); w.num(65534, 16) }},
		{"sizes of 65534", api.ErrBlock, func(w *bits) { w.begin(true, 0); w.align(); w.num(256, 16); w.num(65535-257, 16) }},
		{"equal sizes", api.ErrBlock, func(w *bits) { w.begin(false, 0); w.align(); w.num(0, 16); w.num(0, 16) }},
		{"287 literals", api.ErrCodes, func(w *bits) { w.counts(30, 0, 15) }},
		{"288 literals", api.ErrCodes, func(w *bits) { w.counts(31, 29, 0) }},
		{"31 distances", api.ErrCodes, func(w *bits) { w.counts(0, 30, 3) }},
		{"32 distances", api.ErrCodes, func(w *bits) { w.counts(29, 31, 0) }},
		{"no codes of lengths", api.ErrCodes, func(w *bits) { w.counts(0, 0, 0); w.num(0, 12) }},
		{"no codes of lengths, of 19", api.ErrCodes, func(w *bits) { w.counts(0, 0, 15); w.num(0, 57) }},
		{"one code of lengths", api.ErrCodes, func(w *bits) { w.counts(0, 0, 0); w.num(1, 12) }},
		{"codes of lengths that are not full", api.ErrCodes, func(w *bits) { w.counts(0, 0, 1); w.num(1, 3); w.num(2, 3); w.num(0, 9) }},
		{"too many codes of lengths", api.ErrCodes, func(w *bits) { w.counts(0, 0, 1); w.num(1, 3); w.num(1, 3); w.num(0, 6); w.num(7, 3) }},
		{"16 first", api.ErrCodes, func(w *bits) { w.symbol(w.shortCodes(257, 1), 16) }},
		{"too many lengths by 18", api.ErrCodes, func(w *bits) {
			b := w.shortCodes(257, 1)
			w.symbol(b, 18)
			w.num(127, 7)
			w.symbol(b, 18)
			w.num(121-11, 7)
		}},
		{"too many lengths by 17", api.ErrCodes, func(w *bits) {
			w.lengths(257, 4)
			b := w.bookOfLengths()
			w.symbol(b, 1)
			w.symbol(b, 0)
			w.symbol(b, 17)
			w.num(1, 3)
		}},
		{"too many lengths by 16", api.ErrCodes, func(w *bits) { w.lengths(257, 4, 2, 2); w.symbol(w.bookOfLengths(), 16); w.num(1, 2) }},
		{"too many lengths by 16, at its least", api.ErrCodes, func(w *bits) { w.lengths(257, 2, 1); w.symbol(w.bookOfLengths(), 16); w.num(0, 2) }},
		{"no literals", api.ErrCodes, func(w *bits) { w.lengths(257, 2, 0, 1, 1) }},
		{"no end of the block", api.ErrCodes, func(w *bits) { w.lengths(259, 2, 0, 1, 1, 1, 1) }},
		{"a lone literal that does not end the block", api.ErrCodes, func(w *bits) { w.lengths(258, 1, 0, 1, 0) }},
		{"a lone literal of two bits", api.ErrCodes, func(w *bits) { w.lengths(257, 2, 2, 1, 1) }},
		{"literals that are not full", api.ErrCodes, func(w *bits) { w.lengths(259, 2, 2, 2, 2, 1, 1) }},
		{"too many literals", api.ErrCodes, func(w *bits) { w.lengths(259, 2, 1, 1, 2, 1, 1) }},
		{"a lone distance of two bits", api.ErrCodes, func(w *bits) { w.lengths(258, 2, 1, 1, 2, 0) }},
		{"distances that are not full", api.ErrCodes, func(w *bits) { w.lengths(258, 3, 1, 1, 1, 2, 0) }},
		{"too many distances", api.ErrCodes, func(w *bits) { w.lengths(258, 3, 1, 1, 1, 2, 1) }},
		{"bits that are no literal", api.ErrSymbol, func(w *bits) { w.lengths(257, 1, 1, 0); w.num(1, 1) }},
		{"a distance where there is none", api.ErrSymbol, func(w *bits) { w.lengths(258, 1, 1, 1, 0); w.num(1, 1); w.num(0, 1) }},
		{"a distance where there is none, by the other bit", api.ErrSymbol, func(w *bits) { w.lengths(258, 1, 1, 1, 0); w.num(1, 1); w.num(1, 1) }},
		{"bits that are no distance", api.ErrSymbol, func(w *bits) { w.lengths(258, 2, 1, 1, 0, 1); w.num(1, 1); w.num(1, 1) }},
		{"symbol 286", api.ErrSymbol, func(w *bits) { w.begin(false, 1); w.symbol(fixedLiteral, 286) }},
		{"symbol 287", api.ErrSymbol, func(w *bits) { w.begin(false, 1); w.symbol(fixedLiteral, 287) }},
		{"distance 30", api.ErrSymbol, func(w *bits) { w.begin(false, 1); w.symbol(fixedLiteral, 257); w.symbol(fixedDistance, 30) }},
		{"distance 31, behind bits of the length", api.ErrSymbol, func(w *bits) {
			w.begin(false, 1)
			w.symbol(fixedLiteral, 265)
			w.num(1, 1)
			w.symbol(fixedDistance, 31)
		}},
		{"a distance of 3 behind two bytes", api.ErrFar, func(w *bits) { w.begin(false, 1); w.symbol(fixedLiteral, 285); w.symbol(fixedDistance, 2) }},
		{"a distance of 6", api.ErrFar, func(w *bits) { w.begin(false, 1); w.symbol(fixedLiteral, 257); w.symbol(fixedDistance, 4); w.num(1, 1) }},
		{"a distance of 32768", api.ErrFar, func(w *bits) {
			w.begin(false, 1)
			w.symbol(fixedLiteral, 257)
			w.symbol(fixedDistance, 29)
			w.num(8191, 13)
		}},
		{"a distance of 257", api.ErrFar, func(w *bits) {
			w.dynamicHeading(r, at256(257), []int{16: 1})
			w.code(3, 2)
			w.num(0, 1)
			w.num(0, 7)
		}},
	} {
		for shift := range 8 {
			w := &bits{}
			for range shift / 2 {
				w.fixed(false, nil)
			}
			if shift%2 == 1 { // 27 bits, of a filter and a byte whose code has 9
				w.fixed(false, []token{{b: 0}, {b: 200}})
			} else {
				w.fixed(false, []token{{b: 0}, {b: 100}})
			}
			c.write(w)
			at := 2 + (w.n-1)/8
			streamTells(t, fmt.Sprintf("%s, %d bits on", c.name, shift), grey(16, 1), zlibHead(0)+string(w.b)+"\x00\xff\x55", c.e, at)
		}
	}
}

// bookOfLengths: the codes that shortCodes has written.
func (w *bits) bookOfLengths() book { return (&bits{}).shortCodes(257, 1) }

func (w *bits) dynamicHeading(r *rand.Rand, literals, distances []int) {
	w.begin(false, 2)
	w.heading(r, literals, distances)
}

// What stands next to an error and is none.
func TestStreamEdges(t *testing.T) {
	for name, write := range map[string]func(w *bits){
		"286 literals, 30 distances": func(w *bits) {
			w.dynamicHeading(rand.New(rand.NewSource(1)), at256(285), append(make([]int, 29), 1))
		},
		"all 19 codes of lengths": func(w *bits) {
			w.counts(0, 0, 15)
			for range 13 {
				w.num(4, 3)
			}
			for range 6 {
				w.num(5, 3)
			}
		},
		"a lone end of the block":            func(w *bits) { w.lengths(257, 1, 1, 0); w.num(0, 1); w.fixed(false, nil) },
		"no distance, and none is asked for": func(w *bits) { w.lengths(258, 1, 1, 1, 0); w.num(0, 1); w.fixed(false, nil) },
		"a lone distance": func(w *bits) {
			w.lengths(258, 2, 1, 1, 0, 1)
			w.num(1, 1)
			w.num(0, 1)
			w.num(0, 1)
			w.fixed(false, nil)
		},
		"a copy of the first byte":  func(w *bits) { w.fixed(false, []token{{0, 3, 2}}) },
		"a stored block of nothing": func(w *bits) { w.stored(false, ""); w.stored(false, "") },
		"one end of two codes":      func(w *bits) { w.lengths(258, 2, 1, 1, 1, 1); w.num(0, 1); w.fixed(false, nil) },
		"lengths again over the last literal": func(w *bits) {
			w.lengths(257, 4, 1)
			b := w.bookOfLengths()
			w.symbol(b, 0)
			w.symbol(b, 16)
			w.num(0, 2)
			w.num(0, 1)
			w.fixed(false, nil)
		},
	} {
		w := &bits{}
		w.fixed(false, []token{{b: 0}, {b: 100}})
		write(w)
		streamTells(t, name, grey(16, 1), zlibHead(7)+string(w.b), api.OK, 0)
	}
}

// Every length with every further bit, every distance that these pictures reach, at each window.
func TestCopies(t *testing.T) {
	m := image{w: 16, h: 16, kind: api.RgbAlpha, depth: 16}
	r := rand.New(rand.NewSource(9))
	rows := strings.Repeat("\x00"+strings.Repeat("abcdefgh", 16), 16)
	if len(rows) != 2064 {
		t.Fatal(len(rows))
	}
	for n := 3; n <= 258; n++ {
		w := &bits{}
		l := []token{{b: 0}, {b: 'a'}, {b: 'b'}, {b: 'c'}, {b: 'd'}, {b: 'e'}, {b: 'f'}, {b: 'g'}, {b: 'h'}, {0, min(n, 120), 8}}
		at := 9 + min(n, 120)
		for at < 129 {
			l = append(l, token{b: rows[at]})
			at++
		}
		l = append(l, token{0, n, 129})
		at += n
		for _, c := range rows[at:] {
			l = append(l, token{b: byte(c)})
		}
		if n%2 == 0 {
			w.fixed(true, l)
		} else {
			w.dynamic(r, true, l)
		}
		w.align()
		right(t, fmt.Sprintf("copies of %d", n), m, rows, zlibHead(0)+string(w.b)+sum(rows))
	}
}

// right: a file of this stream is right, and shows the rows.
func right(t *testing.T, name string, m image, rows, z string) {
	t.Helper()
	s := m.ahead() + chunk("IDAT", z) + chunk("IEND", "")
	x := pixels.New()
	e, at := x.Feed(s)
	if e != api.OK || at != 0 || !x.Snap().Done {
		t.Errorf("P6: %s: %d at %d", name, e, at-len(m.ahead())-8)
		return
	}
	_, want := rightSnap(m, rows)
	if got := x.Snap(); fmt.Sprint(got.Pix) != fmt.Sprint(want.Pix) {
		t.Errorf("P6: %s: other bytes", name)
	}
}

// rightSnap: what these rows show.
func rightSnap(m image, rows string) (bool, api.Snap) {
	w := &bits{}
	w.stored(true, rows)
	known, f, ended := painted(m, zlibHead(0)+string(w.b)+sum(rows))
	return ended && f.err == api.OK, m.snap(known)
}

// Copies from each distance that there is, at the edges of the window and of the bytes so far.
func TestDistances(t *testing.T) {
	m := image{w: 16, h: 16, kind: api.RgbAlpha, depth: 16}
	r := rand.New(rand.NewSource(3))
	for window := range 8 {
		size := 256 << window
		for _, c := range []struct{ count, distance int }{{1, 1}, {1, 2}, {255, 255}, {255, 256}, {256, 256}, {257, 256}, {257, 257}, {300, 257}, {600, 512}, {600, 513}, {1500, 1024}, {1500, 1025}, {2000, 1999}, {2000, 2000}, {2000, 2001}, {2060, 2048}, {2060, 2049}, {2060, 2060}, {2060, 2061}, {2060, 8192}, {2060, 32768}} {
			rows := ""
			for len(rows) < c.count {
				rows += string([]byte{byte(r.Intn(5))}) // a filter, wherever a copy lays it
			}
			w := &bits{}
			w.stored(false, rows)
			w.begin(true, 1)
			a, b := fixedBooks()
			w.symbol(a, 257)
			s, rest, bits := distanceSymbol(c.distance)
			w.symbol(b, s)
			w.num(rest, bits)
			e, at := api.OK, 0
			if c.distance > c.count || c.distance > size {
				e, at = api.ErrFar, 2+(w.n-1)/8
			}
			streamTells(t, fmt.Sprintf("window %d, %d from %d back", size, c.count, c.distance), m, zlibHead(window)+string(w.b), e, at)
		}
	}
}

// The sum of the stream, and what stands behind it.
func TestStreamEnds(t *testing.T) {
	rows := "\x00\x07"
	w := &bits{}
	w.stored(true, rows)
	z := zlibHead(0) + string(w.b) + sum(rows)
	for bit := range 32 {
		b := []byte(z)
		b[len(b)-4+bit/8] ^= 1 << (bit % 8)
		streamTells(t, "a wrong sum", grey(1, 1), string(b)+"\x00", api.ErrAdler, len(z)-1)
	}
	for b := range 256 {
		streamTells(t, "a byte behind the stream", grey(1, 1), z+string([]byte{byte(b)}), api.ErrExtra, len(z))
	}
	s := grey(1, 1).ahead() + chunk("IDAT", z) + chunk("IDAT", "")
	tells(t, "an empty IDAT behind the stream", s, api.OK, 0)
	tells(t, "a byte behind the stream, in another IDAT", s+opened(1, "IDAT")+"\x00", api.ErrExtra, len(s)+8)
	for n := range len(z) {
		s := grey(1, 1).ahead() + chunk("IDAT", z[:n]) + chunk("IDAT", "")
		for _, kind := range []string{"IEND", "abCd", "PLTE", "tRNS", "IHDR", "ABCD"} {
			tells(t, kind+" ahead of the stream's end", s+opened(3, kind), api.ErrShort, atType(len(s)))
		}
		tells(t, "an ill made type ahead of the stream's end", s+opened(3, "abcd"), api.ErrType, atType(len(s)))
	}
}

// Empty blocks of all kinds, and a sum that begins at the next byte wherever the last block ends.
func TestBlocks(t *testing.T) {
	r := rand.New(rand.NewSource(8))
	for range 300 {
		rows := "\x00\x07\x08"
		w := &bits{}
		for range r.Intn(9) {
			switch r.Intn(3) {
			case 0:
				w.stored(false, "")
			case 1:
				w.fixed(false, nil)
			case 2:
				w.dynamic(r, false, nil)
			}
		}
		w.blocks(r, rows, len(rows), 0, true)
		w.align()
		right(t, "empty blocks", grey(2, 1), rows, zlibHead(0)+string(w.b)+sum(rows))
	}
}

// All bytes, in codes of 8 and of 9 bits.
func TestFixedBytes(t *testing.T) {
	var l []token
	rows := ""
	for y := range 16 {
		rows += "\x00"
		l = append(l, token{b: 0})
		for x := range 16 {
			rows += string([]byte{byte(16*y + x)})
			l = append(l, token{b: byte(16*y + x)})
		}
	}
	w := &bits{}
	w.fixed(true, l)
	w.align()
	right(t, "all bytes", grey(16, 16), rows, zlibHead(0)+string(w.b)+sum(rows))
}
