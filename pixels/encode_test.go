package pixels_test

import (
	"encoding/binary"
	"fmt"
	"math"
	"math/rand"
	"reflect"
	"slices"
	"strings"
	"testing"

	"pixels/api"
	"pixels/pixels"
)

// given: the picture as Encode takes it.
func (m image) given() api.Image {
	im := api.Image{W: m.w, H: m.h, Kind: m.kind, Depth: m.depth, Pix: slices.Clone(m.pix)}
	for i := range len(m.palette) {
		im.Pal = append(im.Pal, int(m.palette[i]))
	}
	for i := 0; i < len(m.clear); i++ {
		if m.kind == api.Palette {
			im.Clear = append(im.Clear, int(m.clear[i]))
			continue
		}
		im.Clear = append(im.Clear, int(binary.BigEndian.Uint16([]byte(m.clear[i:]))))
		i++
	}
	return im
}

// whole: what is shown when all pixels are known.
func (m image) whole() api.Snap {
	known := map[[2]int][]int{}
	n := samplesOf[m.kind]
	for i := range m.w * m.h {
		known[[2]int{i % m.w, i / m.w}] = m.pix[n*i : n*i+n]
	}
	s := m.snap(known)
	s.Done = true
	return s
}

// plain: a choice of one block and one IDAT.
func plain(kind int) api.Choice {
	return api.Choice{Filters: []int{0}, Kinds: []int{kind}, Part: 1 << 20, Cuts: []int{1 << 20}}
}

// randomChoice: one that is not refused, for about so many bytes.
func randomChoice(r *rand.Rand, lace, size int) api.Choice {
	ch := api.Choice{Lace: lace, Part: 1 + r.Intn(one(r, 3, 20, size, 2*size)), Window: r.Intn(8), Search: r.Intn(65)}
	if r.Intn(2) == 0 {
		ch.Search = 0
	}
	for range 1 + r.Intn(one(r, 1, 5, 64)) {
		ch.Filters = append(ch.Filters, r.Intn(5))
	}
	for range 1 + r.Intn(one(r, 1, 5, 64)) {
		ch.Kinds = append(ch.Kinds, r.Intn(3))
	}
	most := one(r, 2, 9, size, 3*size)
	for range r.Intn(one(r, 1, 5, 64)) {
		ch.Cuts = append(ch.Cuts, r.Intn(most))
	}
	ch.Cuts = append(ch.Cuts, 1+r.Intn(most))
	return ch
}

// recut: IDATs of a stream, by the document's words.
func recut(z string, cuts []int) string {
	var s strings.Builder
	for k := 0; z != ""; k++ {
		n := min(cuts[k%len(cuts)], len(z))
		s.WriteString(chunk("IDAT", z[:n]))
		z = z[n:]
	}
	return s.String()
}

// streamOf: the data of a file's IDATs.
func streamOf(t *testing.T, s string) string {
	t.Helper()
	var z strings.Builder
	for p := 8; p < len(s); {
		n := 0
		if p+12 <= len(s) {
			n = int(binary.BigEndian.Uint32([]byte(s[p:])))
		}
		if p+12+n > len(s) {
			t.Fatalf("P10: a chunk is cut off: %x", s)
		}
		if s[p+4:p+8] == "IDAT" {
			z.WriteString(s[p+8 : p+8+n])
		}
		p += 12 + n
	}
	return z.String()
}

// encoded: the file of a picture, which keeps to P10 to P12.
func encoded(t *testing.T, r *rand.Rand, m image, ch api.Choice) string {
	t.Helper()
	m.lace = ch.Lace
	s, e := pixels.NewEncoder().Encode(m.given(), ch)
	if e != api.OK || s == "" {
		t.Fatalf("P9: %+v, %+v: %d, %d bytes", m, ch, e, len(s))
	}
	z := streamOf(t, s)
	if want := m.ahead() + recut(z, ch.Cuts) + chunk("IEND", ""); s != want {
		t.Fatalf("P10, P11: %+v, %+v: chunks %x, want %x", m, ch, s, want)
	}
	if !strings.HasPrefix(z, zlibHead(ch.Window)) {
		t.Fatalf("P11: window %d: %x", ch.Window, z)
	}
	p, f := pull(z)
	if !p.ended || f.err != api.OK || p.end != len(z)-1 {
		t.Fatalf("P10: %+v, %+v: the stream: %+v", m, ch, f)
	}
	rows := m.filtered(func(row int) int { return ch.Filters[row%len(ch.Filters)] })
	if string(p.out) != rows {
		t.Fatalf("P11: %+v, %+v: rows %x, want %x", m, ch, p.out, rows)
	}
	checkBlocks(t, p, ch)
	got := same(t, r, []byte(s))
	if want := m.whole(); !reflect.DeepEqual(got.snap, want) {
		t.Fatalf("P10: %+v, %+v: read as %+v, want %+v", m, ch, got.snap, want)
	}
	return s
}

// checkBlocks: parts, kinds, marks, tokens and codes.
func checkBlocks(t *testing.T, p *puller, ch api.Choice) {
	t.Helper()
	at := 0
	for k, b := range p.seen {
		size := min(ch.Part, len(p.out)-at)
		if b.end-at != size || size == 0 {
			t.Fatalf("P12: %+v: block %d has %d bytes, want %d", ch, k, b.end-at, size)
		}
		if b.last != (b.end == len(p.out)) {
			t.Fatalf("P12: %+v: block %d of %d is marked: %v", ch, k, len(p.seen), b.last)
		}
		if want := ch.Kinds[k%len(ch.Kinds)]; b.kind != want {
			t.Fatalf("P12: %+v: block %d is of kind %d, want %d", ch, k, b.kind, want)
		}
		if want := mustTokens(string(p.out[:b.end]), at, ch); b.kind != 0 && !slices.Equal(b.tokens, want) {
			t.Fatalf("P12: %+v: block %d of %x: tokens %v, want %v", ch, k, p.out, b.tokens, want)
		}
		if why := wrongCodes(b); why != "" {
			t.Fatalf("P12: %+v: block %d, tokens %v: %s", ch, k, b.tokens, why)
		}
		at = b.end
	}
	if at != len(p.out) {
		t.Fatalf("P12: %+v: %d bytes of %d", ch, at, len(p.out))
	}
}

func TestEncodeExample(t *testing.T) {
	im := api.Image{W: 1, H: 1, Kind: api.Grey, Depth: 8, Pix: []int{7}}
	for range 2 {
		s, e := pixels.NewEncoder().Encode(im, api.Choice{Filters: []int{0}, Kinds: []int{0}, Part: 9, Cuts: []int{99}, Window: 0})
		if s != smallest || e != api.OK {
			t.Errorf("P10: the example: %x, %d", s, e)
		}
	}
}

// Each kind, depth and interlacing, at the edges of the sides.
func TestEncodeSides(t *testing.T) {
	r := rand.New(rand.NewSource(1))
	forKinds(func(kind, depth int) {
		for _, c := range [][2]int{{1, 1}, {16, 16}, {1, 16}, {16, 1}, {2, 2}, {3, 5}, {4, 9}, {5, 4}, {7, 15}, {9, 8}} {
			for lace := range 2 {
				m := image{w: c[0], h: c[1], kind: kind, depth: depth, lace: lace}.filled(r)
				ch := randomChoice(r, lace, len(m.rowsOfNought()))
				encoded(t, r, m, ch)
				for kind := range 3 {
					ch.Kinds = []int{kind}
					ch.Part = one(r, 1, len(m.rowsOfNought()), math.MaxInt)
					encoded(t, r, m, ch)
				}
			}
		}
	})
}

func TestEncodeRandom(t *testing.T) {
	r := rand.New(rand.NewSource(2))
	for range 600 {
		m := randomImage(r)
		encoded(t, r, m, randomChoice(r, m.lace, len(m.rowsOfNought())))
	}
}

// Every value of every sample, and pictures whose samples are all the least or the greatest.
func TestEncodeValues(t *testing.T) {
	r := rand.New(rand.NewSource(3))
	forKinds(func(kind, depth int) {
		for k := range 4 {
			m := image{w: 16, h: 16, kind: kind, depth: depth, lace: k % 2}
			if kind == api.Palette {
				m.palette = randomBytes(r, 3<<depth, 256)
				m.clear = randomBytes(r, 1<<depth, 256)
			}
			for i := range 256 * samplesOf[kind] {
				v := i
				if k >= 2 {
					v = 2*k - 5
				}
				if depth == 16 {
					v *= 257
				}
				m.pix = append(m.pix, v&(1<<depth-1))
			}
			for kind := range 3 {
				ch := plain(kind)
				ch.Lace = m.lace
				ch.Filters = []int{0, 1, 2, 3, 4}
				ch.Search = one(r, 0, 1, 64)
				encoded(t, r, m, ch)
			}
		}
	})
}

// Parts of 1, of all bytes, of one fewer and one more, and very great ones; each window.
func TestEncodeParts(t *testing.T) {
	r := rand.New(rand.NewSource(4))
	m := image{w: 9, h: 5, kind: api.Grey, depth: 8}.filled(r)
	size := len(m.rowsOfNought())
	for _, part := range []int{1, 2, 3, size/2 - 1, size / 2, size - 1, size, size + 1, 65535, 65536, 1 << 32, math.MaxInt} {
		for _, l := range [][]int{{0}, {1}, {2}, {0, 1}, {1, 0}, {0, 2}, {2, 0}, {1, 2}, {2, 1}, {1, 1, 0}, {2, 0, 1}, {0, 0, 2, 2, 1}} {
			ch := api.Choice{Filters: []int{3}, Kinds: l, Part: part, Cuts: []int{50}, Window: part % 8, Search: part % 3}
			encoded(t, r, m, ch)
		}
	}
	for window := range 8 {
		ch := plain(window % 3)
		ch.Window = window
		encoded(t, r, m, ch)
	}
}

// A stream that ends just where a cut ends, one byte ahead and one behind, and empty cuts at each of these places.
func TestEncodeCuts(t *testing.T) {
	r := rand.New(rand.NewSource(5))
	m := image{w: 3, h: 2, kind: api.Rgb, depth: 8}.filled(r)
	size := len(streamOf(t, encoded(t, r, m, plain(0))))
	for _, cuts := range [][]int{
		{1}, {size}, {size - 1}, {size + 1}, {size, 0}, {0, size}, {0, size, 0}, {size - 1, 1}, {size - 1, 0, 0, 1, 0}, {1, size - 1}, {1, size}, {0, 0, 1},
		{size / 2, size - size/2}, {size / 2, size - size/2, 0}, {math.MaxInt}, {math.MaxInt, 0}, {0, math.MaxInt}, {1, math.MaxInt, math.MaxInt},
		append(make([]int, 63), 1), append([]int{1}, make([]int, 63)...), append([]int{2}, make([]int, 63)...),
	} {
		ch := plain(0)
		ch.Cuts = cuts
		encoded(t, r, m, ch)
	}
	ch := plain(0)
	ch.Cuts = []int{size, 0}
	if s := encoded(t, r, m, ch); strings.Count(s, "IDAT") != 1 {
		t.Errorf("P11: an empty IDAT behind the stream's last byte")
	}
	ch.Cuts = []int{0, 0, size}
	if s := encoded(t, r, m, ch); strings.Count(s, "IDAT") != 3 {
		t.Errorf("P11: empty IDATs ahead of the stream's last byte")
	}
}

// A list of 64 filters goes over all passes; the greatest picture has 30 rows, so that no member comes up twice.
func TestEncodeFilters(t *testing.T) {
	r := rand.New(rand.NewSource(6))
	for lace := range 2 {
		for n := 1; n <= 64; n += 9 {
			m := image{w: 16, h: 16, kind: api.RgbAlpha, depth: 16, lace: lace}.filled(r)
			ch := plain(0)
			ch.Lace, ch.Filters = lace, nil
			for range n {
				ch.Filters = append(ch.Filters, r.Intn(5))
			}
			encoded(t, r, m, ch)
		}
	}
}

// behind: a list with room behind it, in which something stands.
func behind(l []int) []int {
	room := append(slices.Clone(l), -7, -8, -9)
	return room[:len(l)]
}

// lists: all that is handed in, with what stands behind it.
func lists(im api.Image, ch api.Choice) string {
	s := ""
	for _, l := range [][]int{im.Pal, im.Clear, im.Pix, ch.Filters, ch.Kinds, ch.Cuts} {
		s += fmt.Sprint(l, l[:cap(l)])
	}
	return s
}

// Nothing is written into, nothing is kept, and the file hangs on the picture and the choice alone.
func TestEncodeOwns(t *testing.T) {
	r := rand.New(rand.NewSource(7))
	x := pixels.NewEncoder()
	for k := range 300 {
		m := randomImage(r)
		im := m.given()
		ch := randomChoice(r, m.lace, len(m.rowsOfNought()))
		im.Pal, im.Clear, im.Pix = behind(im.Pal), behind(im.Clear), behind(im.Pix)
		ch.Filters, ch.Kinds, ch.Cuts = behind(ch.Filters), behind(ch.Kinds), behind(ch.Cuts)
		if k%3 == 0 {
			spoil(r, &im, &ch)
		}
		before := lists(im, ch)
		s, e := x.Encode(im, ch)
		if lists(im, ch) != before {
			t.Fatalf("P1: what was handed in was written into: %s, was %s", lists(im, ch), before)
		}
		again, f := pixels.NewEncoder().Encode(im, ch)
		if again != s || e != f {
			t.Fatalf("P10: %+v, %+v: another file the second time", im, ch)
		}
		kept := strings.Clone(s)
		for _, l := range [][]int{im.Pal, im.Clear, im.Pix, ch.Filters, ch.Kinds, ch.Cuts} {
			for i := range l {
				l[i] = 1
			}
		}
		if s != kept {
			t.Fatal("P1: the file was changed by what was written into the picture")
		}
	}
}

// Lists that were handed in once and have been changed since are read afresh.
func TestEncodeReadsAfresh(t *testing.T) {
	im, ch := small(api.Grey, 8)
	im.W, im.Pix = 3, []int{1, 2, 3}
	ch.Filters = []int{1}
	x, y := pixels.NewEncoder(), pixels.NewEncoder()
	for v := range 256 {
		im.Pix[v%3] = v
		ch.Filters[0] = v % 5
		ch.Cuts[0] = 1 + v
		s, e := x.Encode(im, ch)
		other := ch
		other.Filters, other.Cuts = []int{v % 5}, []int{1 + v}
		fresh := im
		fresh.Pix = slices.Clone(im.Pix)
		y.Encode(api.Image{W: v}, ch)
		if want, f := y.Encode(fresh, other); s != want || e != f {
			t.Fatalf("P1, P10: %x, %d, want %x, %d", s, e, want, f)
		}
		z := pixels.New()
		z.Feed(s)
		for i, p := range im.Pix {
			if got := z.Snap(); !got.Done || got.Pix[4*i] != 257*p {
				t.Fatalf("P1, P10: %v is read as %+v", im.Pix, got)
			}
		}
	}
}

// An encoder that was not made by NewEncoder has no right to panic either.
func TestBareEncoders(t *testing.T) {
	im := api.Image{W: 1, H: 1, Kind: api.Grey, Depth: 8, Pix: []int{7}}
	var x pixels.Encoder
	if s, e := x.Encode(im, plain(0)); s != smallest || e != api.OK {
		t.Errorf("P1: a bare encoder: %x, %d", s, e)
	}
	var none *pixels.Encoder
	none.Encode(im, plain(0))
	none.Encode(api.Image{}, api.Choice{})
	if pixels.NewEncoder() == nil {
		t.Error("P9: NewEncoder: nil")
	}
}
