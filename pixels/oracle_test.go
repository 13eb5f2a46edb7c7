package pixels_test

import (
	"encoding/binary"
	"hash/adler32"
	"hash/crc32"
	"regexp"
	"slices"

	"pixels/api"
)

// A second reading of P2 to P8, of all bytes at once and from the other side (texts of bits, pictures painted over): what the decoder tells must be the same.

// fault: an error and how many bytes stand ahead of its byte, of the stream or of the file.
type fault struct {
	err api.Errno
	at  int
}

// dry: the bits are over.
type dry struct{}

// puller reads a stream that may be cut off; it gives up by panic.
type puller struct {
	z      string
	pos    int // in bits
	out    []byte
	from   []int // the stream's byte that gave each byte
	window int
	ended  bool
	end    int // the byte with which it has ended
	seen   []seen
}

// seen: a block as it was read.
type seen struct {
	last   bool
	kind   int
	end    int     // how many bytes there are behind it
	tokens []token // of kinds 1 and 2

	literals, distances []int // of kind 2: the lengths of its codes
}

func (p *puller) bit() int {
	if p.pos/8 >= len(p.z) {
		panic(dry{})
	}
	v := int(p.z[p.pos/8]>>(p.pos%8)) & 1
	p.pos++
	return v
}

func (p *puller) fail(e api.Errno) { panic(fault{e, (p.pos - 1) / 8}) }

func (p *puller) num(n int) int {
	v := 0
	for i := range n {
		v += p.bit() << i
	}
	return v
}

func (p *puller) give(b byte) {
	p.out = append(p.out, b)
	p.from = append(p.from, (p.pos-1)/8)
}

// tree: symbols by their codes, as texts of bits; beginnings that are no code lead to -1.
type tree map[string]int

// plant: ok, if no code begins another.
func plant(lengths []int) (t tree, total, ones int) {
	t = tree{}
	next, left := 0, 1<<20
	for l := 1; l <= 15; l++ {
		for s, n := range lengths {
			if n != l {
				continue
			}
			c := ""
			for i := l - 1; i >= 0; i-- {
				t[c] = -1
				c += string(rune('0' + next>>i&1))
			}
			t[c] = s
			next++
			total++
			if l == 1 {
				ones++
			}
			left -= 1 << (20 - l)
		}
		next <<= 1
	}
	if left == 0 && total > 0 {
		return t, -1, ones
	}
	return t, total, ones
}

const full = -1

// The codes of blocks of kind 1.
var fixedLiterals, fixedDistances = fixedTrees()

func fixedTrees() (tree, tree) {
	a, b := fixedBooks()
	l, _, _ := plant(a.lengths)
	d, _, _ := plant(b.lengths)
	return l, d
}

func (p *puller) symbol(t tree) int {
	c := ""
	for {
		c += string(rune('0' + p.bit()))
		s, ok := t[c]
		if !ok {
			p.fail(api.ErrSymbol)
		}
		if s >= 0 {
			return s
		}
	}
}

func (p *puller) byteAligned() { p.pos = (p.pos + 7) / 8 * 8 }

func (p *puller) stream() {
	c := p.num(8)
	f := p.num(8)
	if c&15 != 8 || c>>4 > 7 || (c<<8|f)%31 != 0 || f>>5&1 == 1 {
		p.fail(api.ErrZlib)
	}
	p.window = 1 << (8 + c>>4)
	for last := 0; last == 0; {
		last = p.bit()
		kind := p.num(2)
		p.seen = append(p.seen, seen{last: last == 1, kind: kind})
		switch kind {
		case 0:
			p.byteAligned()
			n := p.num(16)
			if n+p.num(16) != 65535 {
				p.fail(api.ErrBlock)
			}
			for range n {
				p.give(byte(p.num(8)))
			}
		case 1:
			p.symbols(fixedLiterals, fixedDistances)
		case 2:
			p.symbols(p.trees())
		case 3:
			p.fail(api.ErrBlock)
		}
		p.seen[len(p.seen)-1].end = len(p.out)
	}
	p.byteAligned()
	v := uint32(0)
	for range 4 {
		v = v<<8 | uint32(p.num(8))
	}
	if v != adler32.Checksum(p.out) {
		p.fail(api.ErrAdler)
	}
	p.ended = true
	p.end = (p.pos - 1) / 8
	p.bit()
	p.fail(api.ErrExtra)
}

func (p *puller) trees() (tree, tree) {
	nl := 257 + p.num(5)
	nd := 1 + p.num(5)
	ns := 4 + p.num(4)
	if nl > 286 || nd > 30 {
		p.fail(api.ErrCodes)
	}
	short := make([]int, 19)
	for _, s := range shortOrder[:ns] {
		short[s] = p.num(3)
	}
	st, total, _ := plant(short)
	if total != full {
		p.fail(api.ErrCodes)
	}
	var l []int
	for len(l) < nl+nd {
		s := p.symbol(st)
		n := 1
		switch s {
		case 16:
			if len(l) == 0 {
				p.fail(api.ErrCodes)
			}
			s, n = l[len(l)-1], 3+p.num(2)
		case 17:
			s, n = 0, 3+p.num(3)
		case 18:
			s, n = 0, 11+p.num(7)
		}
		l = append(l, slices.Repeat([]int{s}, n)...)
		if len(l) > nl+nd {
			p.fail(api.ErrCodes)
		}
	}
	b := &p.seen[len(p.seen)-1]
	b.literals, b.distances = l[:nl], l[nl:]
	lt, total, ones := plant(l[:nl])
	if total != full && !(total == 1 && ones == 1) || l[256] == 0 {
		p.fail(api.ErrCodes)
	}
	dt, total, ones := plant(l[nl:])
	if total != full && !(total == 1 && ones == 1) && total != 0 {
		p.fail(api.ErrCodes)
	}
	return lt, dt
}

// further: the least number that each symbol says, and how many bits tell more.
func further(first, symbols int, bits func(s int) int) (least, size []int) {
	for s := range symbols {
		least = append(least, first)
		size = append(size, bits(s))
		first += 1 << bits(s)
	}
	return least, size
}

func (p *puller) symbols(literals, distances tree) {
	lengths, lengthBits := further(3, 28, func(s int) int { return max(0, s/4-1) })
	lengths, lengthBits = append(lengths, 258), append(lengthBits, 0)
	reach, reachBits := further(1, 30, func(s int) int { return max(0, s/2-1) })
	l := &p.seen[len(p.seen)-1].tokens
	for {
		s := p.symbol(literals)
		switch {
		case s < 256:
			p.give(byte(s))
			*l = append(*l, token{b: byte(s)})
			continue
		case s == 256:
			return
		case s > 285:
			p.fail(api.ErrSymbol)
		}
		n := lengths[s-257] + p.num(lengthBits[s-257])
		s = p.symbol(distances)
		if s > 29 {
			p.fail(api.ErrSymbol)
		}
		d := reach[s] + p.num(reachBits[s])
		if d > len(p.out) || d > p.window {
			p.fail(api.ErrFar)
		}
		*l = append(*l, token{length: n, distance: d})
		for range n {
			p.give(p.out[len(p.out)-d])
		}
	}
}

// pull: all that a stream gives, and its first error.
func pull(z string) (p *puller, f fault) {
	p = &puller{z: z}
	defer func() {
		switch v := recover().(type) {
		case dry:
		case fault:
			f = v
		default:
			panic(v)
		}
	}()
	p.stream()
	return p, f
}

// painted: the picture that a stream gives and the first error, of rows or of the stream.
func painted(m image, z string) (known map[[2]int][]int, f fault, ended bool) {
	p, f := pull(z)
	known = map[[2]int][]int{}
	out := p.out
	at := func() int { return p.from[len(p.from)-len(out)-1] }
	var above []byte
	pass := -1
	for _, l := range m.lines() {
		if l.pass != pass {
			above, pass = nil, l.pass
		}
		if len(out) == 0 {
			break
		}
		filter := out[0]
		out = out[1:]
		if filter > 4 {
			return known, fault{api.ErrFilter, at()}, false
		}
		if len(out) < len(l.data) {
			out = nil
			break
		}
		row := []byte(string(out[:len(l.data)]))
		out = out[len(l.data):]
		for i := range row {
			row[i] += guess(filter, row, above, i, m.step())
		}
		above = row
		if !m.paint(known, l, row) {
			return known, fault{api.ErrIndex, at()}, false
		}
	}
	if len(out) > 0 {
		out = out[1:]
		return known, fault{api.ErrMany, at()}, false
	}
	if total := len(m.rowsOfNought()); p.ended && len(p.out) < total && (f.err == api.OK || f.err == api.ErrExtra) {
		return known, fault{api.ErrFew, p.end}, false
	}
	return known, f, p.ended
}

// rowsOfNought: as many bytes as the rows have.
func (m image) rowsOfNought() []byte {
	m.pix = nil
	var b []byte
	for _, l := range m.lines() {
		b = append(append(b, 0), l.data...)
	}
	return b
}

// paint: the samples of a row's pixels; false, if a colour is beyond the palette.
func (m image) paint(known map[[2]int][]int, l line, row []byte) bool {
	all := ""
	for _, b := range row {
		for i := 7; i >= 0; i-- {
			all += string(rune('0' + b>>i&1))
		}
	}
	var pixels [][]int
	for range l.places {
		var p []int
		for range samplesOf[m.kind] {
			v := 0
			for _, c := range all[:m.depth] {
				v = 2*v + int(c-'0')
			}
			all = all[m.depth:]
			p = append(p, v)
		}
		if m.kind == api.Palette && 3*p[0] >= len(m.palette) {
			return false
		}
		pixels = append(pixels, p)
	}
	for i, at := range l.places {
		known[at] = pixels[i]
	}
	return true
}

// colour: red, green, blue and alpha of a pixel's samples.
func (m image) colour(p []int) []int {
	if m.kind == api.Palette {
		a := 255
		if p[0] < len(m.clear) {
			a = int(m.clear[p[0]])
		}
		c := m.palette[3*p[0]:]
		return []int{257 * int(c[0]), 257 * int(c[1]), 257 * int(c[2]), 257 * a}
	}
	same := m.clear != ""
	var wide []int
	for i, v := range p {
		wide = append(wide, v*65535/(1<<m.depth-1))
		same = same && int(binary.BigEndian.Uint16([]byte(m.clear[2*i:]))) == v
	}
	a := 65535
	if same {
		a = 0
	}
	switch m.kind {
	case api.Grey:
		return []int{wide[0], wide[0], wide[0], a}
	case api.GreyAlpha:
		return []int{wide[0], wide[0], wide[0], wide[1]}
	case api.Rgb:
		return append(wide, a)
	}
	return wide
}

// snap: what is shown of what is known. Later passes are painted over earlier ones.
func (m image) snap(known map[[2]int][]int) api.Snap {
	s := unknown(m.w, m.h, m.kind, m.depth, m.lace)
	passes, sizes := gridOf(m.lace)
	for k, p := range passes {
		for y := p[1]; y < m.h; y += p[3] {
			for x := p[0]; x < m.w; x += p[2] {
				samples, ok := known[[2]int{x, y}]
				if !ok {
					continue
				}
				c := m.colour(samples)
				s.Known[y*m.w+x] = 1
				copy(s.Pix[4*(y*m.w+x):], c)
				for by := y; by < min(m.h, y+sizes[k][1]); by++ {
					for bx := x; bx < min(m.w, x+sizes[k][0]); bx++ {
						copy(s.Show[4*(by*m.w+bx):], c)
					}
				}
			}
		}
	}
	return s
}

var wellMade = regexp.MustCompile(`^[a-zA-Z]{2}[A-Z][a-zA-Z]$`)

// file: what was read of a file.
type file struct {
	h      []byte // IHDR's data, if it was accepted
	m      image
	seen   map[string]int
	z      string // the stream
	places []int  // where its bytes stand
	over   bool   // a chunk stands behind IDATs
	done   bool
}

// judge: what a decoder must tell of these bytes.
func judge(s []byte) answer {
	x := &file{seen: map[string]int{}}
	f := x.read(string(s))
	var snap api.Snap
	if x.h != nil {
		known, g, _ := painted(x.m, x.z)
		snap = x.m.snap(known)
		if g.err != api.OK {
			f = fault{g.err, x.places[g.at]}
		}
	}
	snap.Err, snap.At = f.err, f.at
	snap.Done = f.err == api.OK && x.done
	return answer{f.err, f.at, snap}
}

// read: the first error of chunks. It is told behind all bytes of the stream that were read up to it, so that an error of the stream comes first.
func (x *file) read(s string) fault {
	for i := range min(len(s), 8) {
		if s[i] != sign[i] {
			return fault{api.ErrSign, i}
		}
	}
	for p := 8; ; {
		if x.done && len(s) > p {
			return fault{api.ErrTrail, p}
		}
		if len(s) < p+4 {
			return fault{}
		}
		n := int64(binary.BigEndian.Uint32([]byte(s[p:])))
		if n > 1<<31-1 {
			return fault{api.ErrLen, p + 3}
		}
		if len(s) < p+8 {
			return fault{}
		}
		kind := s[p+4 : p+8]
		if e := x.judgeType(kind, n); e != api.OK {
			return fault{e, p + 7}
		}
		q := int64(p) + 8 + n
		data := s[p+8 : min(q, int64(len(s)))]
		if kind == "IDAT" {
			x.stream(data, p+8)
		}
		if int64(len(s)) < q+4 {
			return fault{}
		}
		if binary.BigEndian.Uint32([]byte(s[q:])) != crc32.ChecksumIEEE([]byte(s[p+4:q])) {
			return fault{api.ErrCrc, int(q) + 3}
		}
		if e := x.judgeData(kind, []byte(data)); e != api.OK {
			return fault{e, int(q) + 3}
		}
		x.seen[kind] = 1 + len(data)/3
		x.over = x.over || kind != "IDAT" && x.seen["IDAT"] > 0
		x.done = kind == "IEND"
		p = int(q) + 4
	}
}

func (x *file) stream(data string, at int) {
	x.z += data
	for i := range len(data) {
		x.places = append(x.places, at+i)
	}
}

func (x *file) judgeType(kind string, n int64) api.Errno {
	if !wellMade.MatchString(kind) {
		return api.ErrType
	}
	if x.h == nil {
		return orderOrSize(kind != "IHDR", n != 13)
	}
	depth, colour := x.h[8], x.h[9]
	palette, clear, data := x.seen["PLTE"] > 0, x.seen["tRNS"] > 0, x.seen["IDAT"] > 0
	if data && !x.over && kind != "IDAT" {
		if _, _, ended := painted(x.m, x.z); !ended {
			return api.ErrShort
		}
	}
	switch kind {
	case "IHDR":
		return api.ErrOrder
	case "IEND":
		return orderOrSize(!data, n > 0)
	case "PLTE":
		return orderOrSize(data || palette || clear || colour == 0 || colour == 4, n == 0 || n > 768 || n%3 > 0 || colour == 3 && n > 3<<depth)
	case "tRNS":
		return orderOrSize(data || clear || colour == 4 || colour == 6 || colour == 3 && !palette,
			colour == 0 && n != 2 || colour == 2 && n != 6 || colour == 3 && (n == 0 || n > int64(x.seen["PLTE"]-1)))
	case "IDAT":
		return orderOrSize(x.over || colour == 3 && !palette, false)
	}
	if kind[0] < 'a' {
		return api.ErrType
	}
	return api.OK
}

func orderOrSize(order, size bool) api.Errno {
	if order {
		return api.ErrOrder
	}
	if size {
		return api.ErrSize
	}
	return api.OK
}

// judgeData: what a chunk says, once its sum is right.
func (x *file) judgeData(kind string, data []byte) api.Errno {
	switch kind {
	case "PLTE":
		x.m.palette = string(data)
	case "tRNS":
		x.m.clear = string(data)
		for i := 0; i < len(data) && x.h[9] != 3; i += 2 {
			if int(binary.BigEndian.Uint16(data[i:])) > 1<<x.h[8]-1 {
				return api.ErrTrans
			}
		}
	case "IHDR":
		e := judgeHead(data)
		if e == api.OK {
			x.h = data
			x.m = image{w: int(data[3]), h: int(data[7]), kind: int(data[9]), depth: int(data[8]), lace: int(data[12])}
		}
		return e
	}
	return api.OK
}

func judgeHead(data []byte) api.Errno {
	w, l := binary.BigEndian.Uint32(data), binary.BigEndian.Uint32(data[4:])
	legal := map[[2]byte]bool{}
	forKinds(func(kind, depth int) { legal[[2]byte{byte(kind), byte(depth)}] = true })
	if int32(w) <= 0 || int32(l) <= 0 || !legal[[2]byte{data[9], data[8]}] || data[10] != 0 || data[11] != 0 || data[12] > 1 {
		return api.ErrHead
	}
	if w > 16 || l > 16 {
		return api.ErrLarge
	}
	return api.OK
}
