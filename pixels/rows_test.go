package pixels_test

import (
	"fmt"
	"image/color"
	"image/png"
	"math/rand"
	"reflect"
	"slices"
	"strings"
	"testing"
	"unsafe"

	"pixels/api"
	"pixels/pixels"
)

// storedStream: rows in one stored block, which is the last.
func storedStream(rows string) string {
	w := &bits{}
	w.stored(true, rows)
	return zlibHead(0) + string(w.b) + sum(rows)
}

// rowsAt: the place in the stream at which storedStream has the rows' byte i.
func rowsAt(i int) int { return 2 + 5 + i }

// shown: the pixels of a file with these rows.
func shown(t *testing.T, m image, rows string) api.Snap {
	t.Helper()
	x := pixels.New()
	e, at := x.Feed(m.ahead() + chunk("IDAT", storedStream(rows)) + chunk("IEND", ""))
	s := x.Snap()
	if e != api.OK || at != 0 || !s.Done || slices.Contains(s.Known, 0) {
		t.Errorf("P7: %+v, %x: %d at %d, known %v", m, rows, e, at, s.Known)
	}
	return s
}

// One row of each kind and depth, by hand.
func TestSamplesOfRows(t *testing.T) {
	for _, c := range []struct {
		m    image
		row  string
		want []int
	}{
		{image{w: 3, kind: api.Grey, depth: 1}, "\xbf", []int{65535, 65535, 65535, 65535, 0, 0, 0, 65535, 65535, 65535, 65535, 65535}},
		{image{w: 3, kind: api.Grey, depth: 1, clear: "\x00\x01"}, "\xa0", []int{65535, 65535, 65535, 0, 0, 0, 0, 65535, 65535, 65535, 65535, 0}},
		{image{w: 5, kind: api.Grey, depth: 2, clear: "\x00\x00"}, "\x1b\x80", []int{0, 0, 0, 0, 21845, 21845, 21845, 65535, 43690, 43690, 43690, 65535, 65535, 65535, 65535, 65535, 43690, 43690, 43690, 65535}},
		{image{w: 3, kind: api.Grey, depth: 4}, "\x1f\xe7", []int{4369, 4369, 4369, 65535, 65535, 65535, 65535, 65535, 61166, 61166, 61166, 65535}},
		{image{w: 2, kind: api.Grey, depth: 8, clear: "\x00\xfe"}, "\xfe\xff", []int{65278, 65278, 65278, 0, 65535, 65535, 65535, 65535}},
		{image{w: 2, kind: api.Grey, depth: 16, clear: "\x01\x02"}, "\x01\x02\x02\x01", []int{258, 258, 258, 0, 513, 513, 513, 65535}},
		{image{w: 2, kind: api.Rgb, depth: 8, clear: "\x00\x01\x00\x02\x00\x03"}, "\x01\x02\x03\x01\x02\x04", []int{257, 514, 771, 0, 257, 514, 1028, 65535}},
		{image{w: 2, kind: api.Rgb, depth: 8, clear: "\x00\x01\x00\x02\x00\x03", palette: "abc"}, "\x00\x02\x03\x01\x00\x03", []int{0, 514, 771, 65535, 257, 0, 771, 65535}},
		{image{w: 1, kind: api.Rgb, depth: 16}, "\x01\x00\x00\xff\x80\x00", []int{256, 255, 32768, 65535}},
		{image{w: 2, kind: api.GreyAlpha, depth: 8}, "\x01\x02\x00\xff", []int{257, 257, 257, 514, 0, 0, 0, 65535}},
		{image{w: 1, kind: api.GreyAlpha, depth: 16}, "\x01\x02\x03\x04", []int{258, 258, 258, 772}},
		{image{w: 1, kind: api.RgbAlpha, depth: 8, palette: "abc"}, "\x01\x02\x03\x04", []int{257, 514, 771, 1028}},
		{image{w: 1, kind: api.RgbAlpha, depth: 16}, "\x00\x01\x00\x02\x00\x03\x00\x04", []int{1, 2, 3, 4}},
		{image{w: 2, kind: api.Palette, depth: 1, palette: "\x01\x02\x03\x04\x05\x06"}, "\x7f", []int{257, 514, 771, 65535, 1028, 1285, 1542, 65535}},
		{image{w: 3, kind: api.Palette, depth: 2, palette: "\x01\x02\x03\x04\x05\x06\x07\x08\x09", clear: "\x00\x80"}, "\x18", []int{257, 514, 771, 0, 1028, 1285, 1542, 32896, 1799, 2056, 2313, 65535}},
		{image{w: 2, kind: api.Palette, depth: 4, palette: "\x01\x02\x03\x04\x05\x06", clear: "\x01\x02"}, "\x10", []int{1028, 1285, 1542, 514, 257, 514, 771, 257}},
		{image{w: 1, kind: api.Palette, depth: 8, palette: strings.Repeat("abc", 255) + "\x01\x02\x03"}, "\xff", []int{257, 514, 771, 65535}},
	} {
		c.m.h = 1
		if s := shown(t, c.m, "\x00"+c.row); !slices.Equal(s.Pix, c.want) || !slices.Equal(s.Show, c.want) {
			t.Errorf("P8: %+v, %x: %v, %v, want %v", c.m, c.row, s.Pix, s.Show, c.want)
		}
	}
}

// The bits that are left of a row's last byte say nothing, but filters take them.
func TestRestOfRows(t *testing.T) {
	m := image{w: 3, h: 2, kind: api.Palette, depth: 1, palette: "abc"}
	if s := shown(t, m, "\x00\x1f\x02\x00"); !slices.Equal(s.Pix, shown(t, m, "\x00\x00\x00\x00").Pix) {
		t.Errorf("P7: the rest of a row: %v", s.Pix)
	}
	m.kind, m.palette = api.Grey, ""
	if s := shown(t, m, "\x00\x1f\x02\x01"); s.Pix[4*3+8] != 65535 || s.Pix[4*3] != 0 {
		t.Errorf("P7: what is carried from the rest of a byte: %v", s.Pix)
	}
}

// Filters by hand: two rows of two pixels of two bytes.
func TestFiltersOfRows(t *testing.T) {
	m := image{w: 2, h: 2, kind: api.GreyAlpha, depth: 8}
	for _, c := range []struct {
		rows string
		want []int
	}{
		{"\x00\x01\x02\x03\x04\x00\x05\x06\x07\x08", []int{1, 2, 3, 4, 5, 6, 7, 8}},
		{"\x01\x01\x02\x03\xff\x01\x05\x06\x07\x08", []int{1, 2, 4, 1, 5, 6, 12, 14}},
		{"\x02\x01\x02\x03\xff\x02\x05\x06\x07\x08", []int{1, 2, 3, 255, 6, 8, 10, 7}},
		{"\x03\x01\x03\x03\xff\x03\x05\x06\xff\xff", []int{1, 3, 3, 0, 5, 7, 3, 2}},
		{"\x03\xff\xff\xff\xff\x03\x80\x80\x00\x01", []int{255, 255, 126, 126, 255, 255, 190, 191}},
		{"\x04\x01\x03\x03\xff\x04\x05\x06\xff\xff", []int{1, 3, 4, 2, 6, 9, 5, 8}},
		{"\x00\x0a\x0a\x14\x1e\x04\x00\x00\x01\x01", []int{10, 10, 20, 30, 10, 10, 21, 31}},
		{"\x00\x14\x14\x0a\x0a\x04\x00\x00\x01\x01", []int{20, 20, 10, 10, 20, 20, 11, 11}},
		{"\x00\x0a\x0a\x0c\x00\x04\xfc\x05\x01\x01", []int{10, 10, 12, 0, 6, 15, 7, 1}},
	} {
		s := shown(t, m, c.rows)
		var got []int
		for i := range 4 {
			got = append(got, s.Pix[4*i]/257, s.Pix[4*i+3]/257)
		}
		if !slices.Equal(got, c.want) {
			t.Errorf("P7: %x: %v, want %v", c.rows, got, c.want)
		}
	}
}

// A filter above 4, of each row of a plain and of an interlaced picture.
func TestWrongFilters(t *testing.T) {
	for _, m := range []image{grey(3, 4), {w: 9, h: 9, kind: api.Grey, depth: 4, lace: 1}, {w: 1, h: 16, kind: api.Rgb, depth: 16, lace: 1}, {w: 3, h: 1, kind: api.Palette, depth: 1, palette: "abcdef", lace: 1}} {
		rows := string(m.rowsOfNought())
		at := 0
		for _, l := range m.lines() {
			for _, f := range []byte{0, 4, 5, 6, 128, 255} {
				z := storedStream(rows[:at] + string([]byte{f}) + rows[at+1:])
				if f < 5 {
					streamTells(t, "a filter", m, z, api.OK, 0)
				} else {
					streamTells(t, fmt.Sprintf("filter %d at %d", f, at), m, z, api.ErrFilter, rowsAt(at))
				}
			}
			at += 1 + len(l.data)
		}
	}
}

// A colour beyond the palette, at each pixel: told at the last byte of its row, which stays unknown.
func TestWrongColours(t *testing.T) {
	for _, depth := range []int{1, 2, 4, 8} {
		for _, lace := range []int{0, 1} {
			m := image{w: 11, h: 5, kind: api.Palette, depth: depth, lace: lace, palette: strings.Repeat("abc", 1<<depth-1)}
			for i := range m.w * m.h {
				m.pix = make([]int, m.w*m.h)
				m.pix[i] = 1<<depth - 1
				rows, wrong, at := "", -1, 0
				for _, l := range m.lines() {
					rows += "\x00" + string(l.data)
					if slices.Contains(l.places, [2]int{i % m.w, i / m.w}) {
						wrong = len(rows) - 1
						at = l.pass
					}
				}
				z := storedStream(rows)
				streamTells(t, fmt.Sprintf("depth %d, pixel %d of pass %d", depth, i, at), m, z, api.ErrIndex, rowsAt(wrong))
				m.palette += "abc"
				streamTells(t, "the last colour", m, z, api.OK, 0)
				m.palette = m.palette[3:]
			}
		}
	}
}

// Too many bytes and too few, of all sizes: passes without pixels have no rows.
func TestManyAndFew(t *testing.T) {
	for w := 1; w <= 16; w++ {
		for h := 1; h <= 16; h++ {
			for lace := range 2 {
				m := image{w: w, h: h, kind: api.Grey, depth: 2, lace: lace}
				rows := string(m.rowsOfNought())
				streamTells(t, "too many", m, storedStream(rows+"\x00"), api.ErrMany, rowsAt(len(rows)))
				streamTells(t, "too many, a wrong filter", m, storedStream(rows+"\x09"), api.ErrMany, rowsAt(len(rows)))
				few := storedStream(rows[1:])
				streamTells(t, "too few", m, few+"x", api.ErrFew, len(few)-1)
				shown(t, m, rows)
			}
		}
	}
	m := grey(3, 3)
	rows := string(m.rowsOfNought())
	for n := range len(rows) {
		few := storedStream(rows[:n])
		streamTells(t, "too few", m, few, api.ErrFew, len(few)-1)
		streamTells(t, "too few, and a wrong sum", m, few[:len(few)-4]+"abcd", api.ErrAdler, len(few)-1)
	}
	many := storedStream(rows + "\x00")
	streamTells(t, "too many, and a wrong sum", m, many[:len(many)-4]+"abcd", api.ErrMany, rowsAt(len(rows)))
}

// quick: codes of few bits, so that many things show at one byte: 0 is 00, 5 is 01, 256 is 10, 257 (a copy of 3) is 110, 285 (of 258) is 111, and a lone distance of 1 is 0. The codes end with a whole byte.
func quick(t *testing.T) *bits {
	t.Helper()
	l := make([]int, 286)
	l[0], l[5], l[256], l[257], l[285] = 2, 2, 2, 3, 3
	for seed := range 100 {
		w := &bits{}
		for range seed % 4 {
			w.fixed(false, nil)
		}
		w.dynamicHeading(rand.New(rand.NewSource(int64(seed))), l, []int{1})
		if w.n%8 == 0 {
			return w
		}
	}
	t.Fatal("no codes end with a whole byte")
	return nil
}

// What rows tell comes ahead of what the stream tells at that byte; what was known by then is known.
func TestManyThingsAtOneByte(t *testing.T) {
	for _, c := range []struct {
		name  string
		codes string
		e     api.Errno
		at    int
		known int
	}{
		{"a wrong filter, then a wrong distance", "01 110 1", api.ErrFilter, 0, 0},
		{"a wrong distance, then a wrong filter", "110 1 01", api.ErrSymbol, 0, 0},
		{"a copy from ahead of the first byte", "110 0", api.ErrFar, 0, 0},
		{"two rows, one by a copy", "00 110 0", api.OK, 0, 2},
		{"a row, then a wrong filter, then a wrong distance", "00 00 00 00 00 00 01 10", api.ErrFilter, 1, 3},
		{"a row by a copy, then a wrong distance", "00 00 00 00 110 0 110 1", api.ErrSymbol, 1, 3},
		{"a row, then kind 3", "00 110 0 00 00 10 0 11", api.ErrBlock, 1, 3},
		{"three rows by one copy, then one too many, then a wrong distance", "00 111 0 11 0 1", api.ErrMany, 0, 4},
		{"the last row, then one too many", "00 110 0 00 110 0 00 00", api.ErrMany, 1, 4},
		{"the last row, and the end of the block", "00 110 0 00 110 0 10", api.OK, 0, 4},
	} {
		m := grey(1, 4)
		w := quick(t)
		ahead := 2 + len(w.b)
		z := zlibHead(0) + string(w.b) + text(c.codes)
		streamTells(t, c.name, m, z, c.e, ahead+c.at)
		x := pixels.New()
		x.Feed(m.ahead() + opened(uint32(len(z)), "IDAT") + z)
		want := append(slices.Repeat([]int{1}, c.known), make([]int, 4-c.known)...)
		if got := x.Snap().Known; !slices.Equal(got, want) {
			t.Errorf("P8: %s: known %v, want %v", c.name, got, want)
		}
	}
}

// What a plain picture shows behind each byte: its rows one by one.
func TestKnownRowByRow(t *testing.T) {
	forKinds(func(kind, depth int) {
		r := rand.New(rand.NewSource(int64(depth)))
		m := image{w: 5, h: 4, kind: kind, depth: depth}.filled(r)
		rows := m.rows(r)
		ahead := m.ahead() + opened(uint32(len(storedStream(rows))), "IDAT")
		_, whole := rightSnap(m, rows)
		x := pixels.New()
		x.Feed(ahead)
		z := storedStream(rows)
		for i := range len(z) {
			x.Feed(z[i : i+1])
			known := max(0, min(4, (i-rowsAt(0)+1)/(len(rows)/4)))
			got := x.Snap()
			for p := range 20 {
				want, pixel := 0, []int{0, 0, 0, 0}
				if p < 5*known {
					want, pixel = 1, whole.Pix[4*p:4*p+4]
				}
				if got.Known[p] != want || !slices.Equal(got.Pix[4*p:4*p+4], pixel) || !slices.Equal(got.Show[4*p:4*p+4], pixel) {
					t.Fatalf("P8: kind %d, depth %d, behind byte %d of the stream: pixel %d: %d, %v", kind, depth, i, p, got.Known[p], got.Pix[4*p:4*p+4])
				}
			}
		}
	})
}

// What is known stays so, whatever is wrong behind it.
func TestKnownBehindErrors(t *testing.T) {
	m := grey(2, 2)
	rows := "\x00\x01\x02\x00\x03\x04"
	z := storedStream(rows)
	all := m.ahead() + chunk("IDAT", z) + chunk("IEND", "")
	base := len(m.ahead()) + 8
	turn := func(at int) string {
		b := []byte(all)
		b[at] ^= 0x80
		return string(b)
	}
	for _, c := range []struct {
		name string
		s    string
		e    api.Errno
		at   int
		rows int
	}{
		{"the second filter", turn(base + rowsAt(3)), api.ErrFilter, base + rowsAt(3), 1},
		{"the stream's sum", turn(base + len(z) - 1), api.ErrAdler, base + len(z) - 1, 2},
		{"IDAT's sum", turn(base + len(z)), api.ErrCrc, base + len(z) + 3, 2},
		{"IEND's sum", turn(len(all) - 1), api.ErrCrc, len(all) - 1, 2},
		{"a byte behind the end", all + "x", api.ErrTrail, len(all), 2},
		{"a chunk ahead of the stream's end", all[:base-8] + chunk("IDAT", z[:rowsAt(4)]) + chunk("IEND", ""), api.ErrShort, base + rowsAt(4) + 4 + 7, 1},
	} {
		x := pixels.New()
		for range 2 {
			e, at := x.Feed(c.s)
			s := x.Snap()
			want := append(slices.Repeat([]int{1}, 2*c.rows), make([]int, 4-2*c.rows)...)
			if e != c.e || at != c.at || s.Err != e || s.At != at || s.Done || !slices.Equal(s.Known, want) {
				t.Errorf("P3, P8: %s: %d at %d, known %v", c.name, e, at, s.Known)
			}
		}
	}
}

// An interlaced picture row by row: the first two rows of pixels' blocks, and what lies over them.
func TestShowAheadOfTime(t *testing.T) {
	m := image{w: 10, h: 10, kind: api.Grey, depth: 8, lace: 1}
	for y := range 10 {
		for x := range 10 {
			m.pix = append(m.pix, 10*y+x)
		}
	}
	rows := ""
	var ends []int
	for _, l := range m.lines() {
		rows += "\x00" + string(l.data)
		ends = append(ends, len(rows))
	}
	for i, want := range []string{
		// behind the first row of the first pass, then the second; of pixels 0, 8, 80, 88
		"aaaaaaaabb/aaaaaaaabb/aaaaaaaabb/aaaaaaaabb/aaaaaaaabb/aaaaaaaabb/aaaaaaaabb/aaaaaaaabb/----------/----------",
		"aaaaaaaabb/aaaaaaaabb/aaaaaaaabb/aaaaaaaabb/aaaaaaaabb/aaaaaaaabb/aaaaaaaabb/aaaaaaaabb/ccccccccdd/ccccccccdd",
		// the second pass: pixel 4, then 84
		"aaaaeeeebb/aaaaeeeebb/aaaaeeeebb/aaaaeeeebb/aaaaeeeebb/aaaaeeeebb/aaaaeeeebb/aaaaeeeebb/ccccccccdd/ccccccccdd",
		"aaaaeeeebb/aaaaeeeebb/aaaaeeeebb/aaaaeeeebb/aaaaeeeebb/aaaaeeeebb/aaaaeeeebb/aaaaeeeebb/ccccffffdd/ccccffffdd",
		// the third pass: pixels 40, 44, 48
		"aaaaeeeebb/aaaaeeeebb/aaaaeeeebb/aaaaeeeebb/gggghhhhii/gggghhhhii/gggghhhhii/gggghhhhii/ccccffffdd/ccccffffdd",
		// the fourth: pixels 2 and 6, then 42 and 46
		"aajjeekkbb/aajjeekkbb/aajjeekkbb/aajjeekkbb/gggghhhhii/gggghhhhii/gggghhhhii/gggghhhhii/ccccffffdd/ccccffffdd",
		"aajjeekkbb/aajjeekkbb/aajjeekkbb/aajjeekkbb/ggllhhmmii/ggllhhmmii/ggllhhmmii/ggllhhmmii/ccccffffdd/ccccffffdd",
	} {
		value := map[rune]int{'a': 0, 'b': 8, 'c': 80, 'd': 88, 'e': 4, 'f': 84, 'g': 40, 'h': 44, 'i': 48, 'j': 2, 'k': 6, 'l': 42, 'm': 46}
		var show []int
		for _, c := range strings.ReplaceAll(want, "/", "") {
			v := 257 * value[c]
			if c == '-' {
				show = append(show, 0, 0, 0, 0)
			} else {
				show = append(show, v, v, v, 65535)
			}
		}
		x := pixels.New()
		z := storedStream(rows)
		x.Feed(m.ahead() + opened(uint32(len(z)), "IDAT") + z[:rowsAt(ends[i])])
		if got := x.Snap().Show; !slices.Equal(got, show) {
			t.Errorf("P8: behind row %d of all passes: %v, want %v", i, got, show)
		}
	}
}

// wide: a pixel of the library's, of sixteen bits a sample, alpha not multiplied in.
func wide(c color.Color) []int {
	switch c := c.(type) {
	case color.Gray:
		return []int{257 * int(c.Y), 257 * int(c.Y), 257 * int(c.Y), 65535}
	case color.Gray16:
		return []int{int(c.Y), int(c.Y), int(c.Y), 65535}
	case color.NRGBA:
		return []int{257 * int(c.R), 257 * int(c.G), 257 * int(c.B), 257 * int(c.A)}
	case color.NRGBA64:
		return []int{int(c.R), int(c.G), int(c.B), int(c.A)}
	case color.RGBA:
		return []int{257 * int(c.R), 257 * int(c.G), 257 * int(c.B), 257 * int(c.A)}
	case color.RGBA64:
		return []int{int(c.R), int(c.G), int(c.B), int(c.A)}
	}
	return nil
}

// Files of each kind, depth and interlacing, that the library reads too.
func TestAsTheLibraryReads(t *testing.T) {
	r := rand.New(rand.NewSource(6))
	forKinds(func(kind, depth int) {
		for i := range 30 {
			m := image{w: 1 + r.Intn(16), h: 1 + r.Intn(16), kind: kind, depth: depth, lace: i % 2}.filled(r)
			s := randomPicture(r, m)
			lib, err := png.Decode(strings.NewReader(s))
			if err != nil {
				t.Fatalf("%+v: %v", m, err)
			}
			x, got := cut(t, r, s)
			if got.err != api.OK || !x.Snap().Done {
				t.Fatalf("P6 to P8: %+v: %d at %d", m, got.err, got.at)
			}
			for y := range m.h {
				for x := range m.w {
					k := 4 * (y*m.w + x)
					if want := wide(lib.At(x, y)); !slices.Equal(got.snap.Pix[k:k+4], want) {
						t.Fatalf("P7, P8: %+v: pixel %d, %d: %v, want %v", m, x, y, got.snap.Pix[k:k+4], want)
					}
				}
			}
		}
	})
}

// Lists that come out are the caller's, behind a picture too.
func TestListsOfAPicture(t *testing.T) {
	r := rand.New(rand.NewSource(7))
	for range 50 {
		m := randomImage(r)
		s := randomPicture(r, m)
		x, got := cut(t, r, s)
		mine := x.Snap()
		for _, l := range [][]int{mine.Known, mine.Pix, mine.Show} {
			if len(l) != cap(l) {
				t.Errorf("P1: spare room: %d of %d", len(l), cap(l))
			}
			for i := range l {
				l[i] = -9
			}
		}
		if again := x.Snap(); !reflect.DeepEqual(again, got.snap) {
			t.Errorf("P1: what came out was written into")
		}
	}
}

// Nothing of a piece is kept: its bytes may change behind the call.
func TestPiecesAreNotKept(t *testing.T) {
	r := rand.New(rand.NewSource(10))
	m := randomImage(r)
	s := randomPicture(r, m)
	x := pixels.New()
	piece := make([]byte, 7)
	for i := 0; i < len(s); i += 7 {
		n := copy(piece, s[i:])
		x.Feed(unsafe.String(&piece[0], n))
	}
	if got := x.Snap(); !reflect.DeepEqual(got, judge([]byte(s)).snap) {
		t.Errorf("P3: %+v", got)
	}
}
