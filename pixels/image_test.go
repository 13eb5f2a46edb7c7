package pixels_test

import (
	"math/rand"

	"pixels/api"
)

// image: a picture as a file has it.
type image struct {
	w, h, kind, depth, lace int
	palette, clear          string
	pix                     []int // samples, row by row
}

var samplesOf = map[int]int{api.Grey: 1, api.Rgb: 3, api.Palette: 1, api.GreyAlpha: 2, api.RgbAlpha: 4}

// sevens: x0 y0 dx dy of the passes of an interlaced picture.
var sevens = [][4]int{{0, 0, 8, 8}, {4, 0, 8, 8}, {0, 4, 4, 8}, {2, 0, 4, 4}, {0, 2, 2, 4}, {1, 0, 2, 2}, {0, 1, 1, 2}}

// blocks: columns and rows of a pixel's block, by the passes.
var blocks = [][2]int{{8, 8}, {4, 8}, {4, 4}, {2, 4}, {2, 2}, {1, 2}, {1, 1}}

func gridOf(lace int) ([][4]int, [][2]int) {
	if lace == 1 {
		return sevens, blocks
	}
	return [][4]int{{0, 0, 1, 1}}, [][2]int{{1, 1}}
}

// line: a row of a pass: where its pixels stand, and its bytes ahead of the filter.
type line struct {
	pass   int
	places [][2]int
	data   []byte
}

// lines: the rows of all passes.
func (m image) lines() []line {
	var l []line
	passes, _ := gridOf(m.lace)
	n := samplesOf[m.kind]
	for k, p := range passes {
		for y := p[1]; y < m.h && p[0] < m.w; y += p[3] {
			row := line{pass: k}
			all := &bits{}
			for x := p[0]; x < m.w; x += p[2] {
				row.places = append(row.places, [2]int{x, y})
				if m.pix == nil {
					all.num(0, n*m.depth)
					continue
				}
				for _, v := range m.pix[n*(y*m.w+x) : n*(y*m.w+x)+n] {
					all.code(v, m.depth)
				}
			}
			for _, b := range all.b {
				row.data = append(row.data, turned(b))
			}
			l = append(l, row)
		}
	}
	return l
}

// turned: a byte with its bits the other way round, since samples have the highest first.
func turned(b byte) byte {
	var c byte
	for i := range 8 {
		c |= b >> i & 1 << (7 - i)
	}
	return c
}

func (m image) step() int { return max(1, samplesOf[m.kind]*m.depth/8) }

// guess: what a filter takes for byte i of a row, by the words of the document.
func guess(filter byte, row, above []byte, i, step int) byte {
	left, up, corner := 0, 0, 0
	if above != nil {
		up = int(above[i])
	}
	if i >= step {
		left = int(row[i-step])
		if above != nil {
			corner = int(above[i-step])
		}
	}
	switch filter {
	case 1:
		return byte(left)
	case 2:
		return byte(up)
	case 3:
		return byte((left + up) >> 1)
	case 4:
		best := left
		for _, c := range []int{up, corner} {
			if far(c, left+up-corner) < far(best, left+up-corner) {
				best = c
			}
		}
		return byte(best)
	}
	return 0
}

func far(a, b int) int { return max(a-b, b-a) }

// rows: the bytes of all rows, with filters that r chooses.
func (m image) rows(r *rand.Rand) string {
	return m.filtered(func(int) int { return r.Intn(5) })
}

// filtered: the same, with these filters.
func (m image) filtered(filter func(row int) int) string {
	var all []byte
	var above []byte
	pass := -1
	for k, l := range m.lines() {
		if l.pass != pass {
			above, pass = nil, l.pass
		}
		f := byte(filter(k))
		all = append(all, f)
		for i, b := range l.data {
			all = append(all, b-guess(f, l.data, above, i, m.step()))
		}
		above = l.data
	}
	return string(all)
}

// ahead: the file up to its first IDAT.
func (m image) ahead() string {
	s := sign + head(uint32(m.w), uint32(m.h), m.depth, m.kind, "\x00\x00"+string([]byte{byte(m.lace)}))
	if m.palette != "" {
		s += chunk("PLTE", m.palette)
	}
	if m.clear != "" {
		s += chunk("tRNS", m.clear)
	}
	return s
}

// randomImage: of any kind; samples of few values, so that rows repeat and tRNS's come up.
func randomImage(r *rand.Rand) image {
	k := one(r, kinds...)
	m := image{w: 1 + r.Intn(16), h: 1 + r.Intn(16), kind: k.kind, depth: one(r, k.depths...), lace: r.Intn(2)}
	return m.filled(r)
}

// filled: with random samples, palette and transparency.
func (m image) filled(r *rand.Rand) image {
	values := make([]int, 1+r.Intn(5))
	limit := 1 << m.depth
	if m.kind == api.Palette {
		limit = 1 + r.Intn(1<<m.depth)
		m.palette = randomBytes(r, 3*limit, 256)
		if r.Intn(2) == 0 {
			m.clear = randomBytes(r, 1+r.Intn(limit), 256)
		}
	} else if (m.kind == api.Rgb || m.kind == api.RgbAlpha) && r.Intn(4) == 0 {
		m.palette = randomBytes(r, 3*(1+r.Intn(256)), 256)
	}
	for i := range values {
		values[i] = r.Intn(limit)
	}
	for range m.w * m.h * samplesOf[m.kind] {
		m.pix = append(m.pix, one(r, values...))
	}
	if (m.kind == api.Grey || m.kind == api.Rgb) && r.Intn(2) == 0 {
		m.clear = m.clearOf(r)
	}
	return m
}

// clearOf: tRNS of some pixel's samples, or nearly.
func (m image) clearOf(r *rand.Rand) string {
	n := samplesOf[m.kind]
	at := n * r.Intn(m.w*m.h)
	b := ""
	for _, v := range m.pix[at : at+n] {
		if r.Intn(9) == 0 {
			v = r.Intn(1 << m.depth)
		}
		b += string([]byte{byte(v >> 8), byte(v)})
	}
	return b
}

// idats: a stream, cut into IDATs, empty ones among them.
func idats(r *rand.Rand, z string) string {
	s := ""
	most := 1 + r.Intn(1+len(z))
	for {
		n := min(len(z), r.Intn(most+1))
		s += chunk("IDAT", z[:n])
		z = z[n:]
		if z == "" && r.Intn(3) > 0 {
			return s
		}
	}
}
