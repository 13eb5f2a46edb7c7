package pixels_test

import (
	"encoding/binary"
	"hash/adler32"
	mathbits "math/bits"
	"math/rand"
)

// bits: a stream's bits as they are written, the lowest of each byte first.
type bits struct {
	b []byte
	n int
}

// num: a number, its lowest bit first.
func (w *bits) num(v, n int) {
	for i := range n {
		if w.n%8 == 0 {
			w.b = append(w.b, 0)
		}
		w.b[w.n/8] |= byte(v>>i&1) << (w.n % 8)
		w.n++
	}
}

// code: a code, its highest bit first.
func (w *bits) code(v, n int) {
	for i := n - 1; i >= 0; i-- {
		w.num(v>>i&1, 1)
	}
}

// align: fills the byte up, with ones so that what is passed over is not nought.
func (w *bits) align() {
	for w.n%8 != 0 {
		w.num(1, 1)
	}
}

// text: bits as they are read, written as noughts and ones; blanks stand for nothing.
func text(s string) string {
	w := &bits{}
	for _, c := range s {
		if c != ' ' {
			w.num(int(c-'0'), 1)
		}
	}
	return string(w.b)
}

// book: codes of symbols; a length of 0 is no code.
type book struct {
	lengths []int
	codes   []int
}

// newBook: the codes that these lengths say, by counting, as the published text of deflate has it.
func newBook(lengths []int) book {
	b := book{lengths, make([]int, len(lengths))}
	next := 0
	for l := 1; l <= 15; l++ {
		for s, n := range lengths {
			if n == l {
				b.codes[s] = next
				next++
			}
		}
		next <<= 1
	}
	return b
}

func (w *bits) symbol(b book, s int) { w.code(b.codes[s], b.lengths[s]) }

func fixedBooks() (book, book) {
	l := make([]int, 288)
	for s := range l {
		l[s] = 8
		if s >= 144 && s < 256 {
			l[s] = 9
		}
		if s >= 256 && s < 280 {
			l[s] = 7
		}
	}
	d := make([]int, 32)
	for s := range d {
		d[s] = 5
	}
	return newBook(l), newBook(d)
}

// token: a byte, or (with a length) a copy.
type token struct {
	b                byte
	length, distance int
}

func lengthSymbol(n int) (symbol, rest, size int) {
	if n == 258 {
		return 285, 0, 0
	}
	l := n - 3
	e := max(0, mathbits.Len(uint(l))-3)
	return 257 + 4*e + l>>e, l & (1<<e - 1), e
}

func distanceSymbol(n int) (symbol, rest, size int) {
	d := n - 1
	e := max(0, mathbits.Len(uint(d))-2)
	return 2*e + d>>e, d & (1<<e - 1), e
}

// tokens: tokens and the end of the block.
func (w *bits) tokens(l []token, literals, distances book) {
	for _, t := range l {
		if t.length == 0 {
			w.symbol(literals, int(t.b))
			continue
		}
		s, rest, size := lengthSymbol(t.length)
		w.symbol(literals, s)
		w.num(rest, size)
		s, rest, size = distanceSymbol(t.distance)
		w.symbol(distances, s)
		w.num(rest, size)
	}
	w.symbol(literals, 256)
}

func (w *bits) begin(last bool, kind int) {
	n := 0
	if last {
		n = 1
	}
	w.num(n, 1)
	w.num(kind, 2)
}

func (w *bits) stored(last bool, data string) {
	w.begin(last, 0)
	w.align()
	w.num(len(data), 16)
	w.num(65535-len(data), 16)
	for i := range len(data) {
		w.num(int(data[i]), 8)
	}
}

func (w *bits) fixed(last bool, l []token) {
	w.begin(last, 1)
	a, b := fixedBooks()
	w.tokens(l, a, b)
}

var shortOrder = []int{16, 17, 18, 0, 8, 7, 9, 6, 10, 5, 11, 4, 12, 3, 13, 2, 14, 1, 15}

// step: a code of lengths, and the bits behind it.
type step struct{ symbol, rest, size int }

// steps: lengths, written with repeats where r has it so.
func steps(r *rand.Rand, lengths []int) []step {
	var l []step
	for i := 0; i < len(lengths); {
		run := 1
		for i+run < len(lengths) && lengths[i+run] == lengths[i] {
			run++
		}
		n := 0
		switch {
		case lengths[i] == 0 && run >= 11 && r.Intn(4) > 0:
			n = 11 + r.Intn(min(run, 138)-10)
			l = append(l, step{18, n - 11, 7})
		case lengths[i] == 0 && run >= 3 && r.Intn(4) > 0:
			n = 3 + r.Intn(min(run, 10)-2)
			l = append(l, step{17, n - 3, 3})
		case i > 0 && lengths[i-1] == lengths[i] && run >= 3 && r.Intn(4) > 0:
			n = 3 + r.Intn(min(run, 6)-2)
			l = append(l, step{16, n - 3, 2})
		default:
			n = 1
			l = append(l, step{lengths[i], 0, 0})
		}
		i += n
	}
	return l
}

// heading: how a block of kind 2 tells its codes.
func (w *bits) heading(r *rand.Rand, literals, distances []int) {
	w.counted(r, len(literals)-257, len(distances)-1, steps(r, append(append([]int{}, literals...), distances...)))
}

// counted: the same, of counts and steps that may be wrong.
func (w *bits) counted(r *rand.Rand, literals, distances int, l []step) {
	used := map[int]bool{}
	for _, s := range l {
		used[s.symbol] = true
	}
	for len(used) < 2 {
		used[r.Intn(19)] = true
	}
	short := newBook(randomLengths(r, used, 19, 7))
	n := 19
	for n > 4 && short.lengths[shortOrder[n-1]] == 0 && r.Intn(5) > 0 {
		n--
	}
	w.num(literals, 5)
	w.num(distances, 5)
	w.num(n-4, 4)
	for _, s := range shortOrder[:n] {
		w.num(short.lengths[s], 3)
	}
	for _, s := range l {
		w.symbol(short, s.symbol)
		w.num(s.rest, s.size)
	}
}

// randomLengths: full codes for the symbols that are used (one bit for a lone one), of at most so many bits.
func randomLengths(r *rand.Rand, used map[int]bool, size, most int) []int {
	var symbols []int
	for s := range size {
		if used[s] {
			symbols = append(symbols, s)
		}
	}
	l := make([]int, size)
	if len(symbols) == 1 {
		l[symbols[0]] = 1
		return l
	}
	leaves := []int{0}
	for len(leaves) < len(symbols) {
		i := r.Intn(len(leaves))
		if leaves[i] < most {
			leaves[i]++
			leaves = append(leaves, leaves[i])
		}
	}
	r.Shuffle(len(leaves), func(i, k int) { leaves[i], leaves[k] = leaves[k], leaves[i] })
	for i, s := range symbols {
		l[s] = leaves[i]
	}
	return l
}

// dynamic: a block of kind 2, with codes that symbols use and some more.
func (w *bits) dynamic(r *rand.Rand, last bool, l []token) {
	literals, distances := map[int]bool{256: true}, map[int]bool{}
	for _, t := range l {
		if t.length == 0 {
			literals[int(t.b)] = true
			continue
		}
		s, _, _ := lengthSymbol(t.length)
		literals[s] = true
		s, _, _ = distanceSymbol(t.distance)
		distances[s] = true
	}
	for range r.Intn(3) {
		literals[r.Intn(286)] = true
		distances[r.Intn(30)] = true
	}
	a, b := randomLengths(r, literals, 286, 15), []int{0}
	if len(distances) > 0 {
		b = randomLengths(r, distances, 30, 15)
	}
	for len(a) > 257 && a[len(a)-1] == 0 && r.Intn(20) > 0 {
		a = a[:len(a)-1]
	}
	for len(b) > 1 && b[len(b)-1] == 0 && r.Intn(20) > 0 {
		b = b[:len(b)-1]
	}
	w.begin(last, 2)
	w.heading(r, a, b)
	w.tokens(l, newBook(a), newBook(b))
}

// zlibHead: the two bytes ahead of the blocks, with a window of 2^(8 + window).
func zlibHead(window int) string {
	c := 8 + 16*window
	return string([]byte{byte(c), byte((31 - 256*c%31) % 31)})
}

func sum(rows string) string {
	return string(binary.BigEndian.AppendUint32(nil, adler32.Checksum([]byte(rows))))
}

// randomTokens: tokens that give s[from:to], copies of any length and distance among them.
func randomTokens(r *rand.Rand, s string, from, to, window int) []token {
	var l []token
	for from < to {
		t := token{b: s[from]}
		for range 6 {
			if from == 0 || r.Intn(5) == 0 {
				break
			}
			d := 1 + r.Intn(min(from, window))
			n := 0
			for n < 258 && from+n < to && s[from+n] == s[from+n-d] {
				n++
			}
			if n >= 3 {
				t = token{0, 3 + r.Intn(n-2), d}
				if r.Intn(2) == 0 {
					t.length = n
				}
				break
			}
		}
		l = append(l, t)
		from += max(1, t.length)
	}
	return l
}

// blocks: random blocks that give s[:to].
func (w *bits) blocks(r *rand.Rand, s string, to, window int, end bool) {
	most := 1 + r.Intn(1+to)
	for from := 0; end || from < to; {
		next := min(to, from+r.Intn(most+1))
		last := end && next == to && r.Intn(3) > 0
		l := randomTokens(r, s, from, next, 256<<window)
		switch r.Intn(3) {
		case 0:
			w.stored(last, s[from:next])
		case 1:
			w.fixed(last, l)
		case 2:
			w.dynamic(r, last, l)
		}
		from = next
		if last {
			return
		}
	}
}

// randomStream: a whole stream of these bytes, in random blocks.
func randomStream(r *rand.Rand, s string) string {
	window := r.Intn(8)
	w := &bits{}
	w.blocks(r, s, len(s), window, true)
	w.align()
	return zlibHead(window) + string(w.b) + sum(s)
}

// wrongStream: a stream of rows that goes wrong in some block, or whose beginning or end is wrong.
func wrongStream(r *rand.Rand, rows string) string {
	z := randomStream(r, rows)
	switch r.Intn(8) {
	case 0:
		return randomBytes(r, 1, 256) + randomBytes(r, 1, 256) + z[2:]
	case 1:
		return z[:len(z)-1-r.Intn(4)] + randomBytes(r, 4, 256)
	case 2:
		return z + randomBytes(r, 1+r.Intn(3), 256)
	case 3:
		return z[:r.Intn(len(z))]
	case 4:
		b := []byte(z)
		for range 1 + r.Intn(3) {
			b[r.Intn(len(b))] ^= 1 << r.Intn(8)
		}
		return string(b)
	}
	window := r.Intn(8)
	w := &bits{}
	n := r.Intn(len(rows))
	w.blocks(r, rows, n, window, false)
	w.wrongBlock(r, randomTokens(r, rows, 0, min(n, 9), 256), n, 256<<window)
	return zlibHead(window) + string(w.b) + randomBytes(r, r.Intn(20), 256)
}

// wrongBlock: behind count bytes, a block that is an error, or nearly one.
func (w *bits) wrongBlock(r *rand.Rand, l []token, count, window int) {
	switch r.Intn(6) {
	case 0:
		w.begin(r.Intn(2) == 0, 3)
	case 1:
		w.begin(r.Intn(2) == 0, 0)
		w.align()
		w.num(r.Intn(65536), 16)
		w.num(r.Intn(65536), 16)
	case 2:
		w.begin(false, 1)
		a, b := fixedBooks()
		w.symbol(a, one(r, 257, 264, 265, 284, 285, 286, 287))
		w.num(r.Intn(32), r.Intn(6))
		w.symbol(b, one(r, 0, 4, 28, 29, 30, 31))
	case 3:
		w.fixed(false, []token{{0, 3 + r.Intn(256), min(32768, max(1, one(r, count, window)+r.Intn(3)-1))}})
	case 4:
		a := randomLengths(r, map[int]bool{65: true, 256: r.Intn(3) > 0, 257: true, 285: true, r.Intn(286): true}, 286, 15)
		b := randomLengths(r, map[int]bool{0: true, 3: r.Intn(2) == 0}, 1+r.Intn(30), 15)
		for range r.Intn(3) {
			a[r.Intn(286)] += r.Intn(2)
			b[r.Intn(len(b))] = r.Intn(4)
		}
		w.begin(false, 2)
		w.heading(r, a, b)
	case 5:
		var s []step
		for range 1 + r.Intn(20) {
			s = append(s, one(r, step{16, r.Intn(4), 2}, step{17, r.Intn(8), 3}, step{18, r.Intn(128), 7}, step{r.Intn(16), 0, 0}))
		}
		w.begin(false, 2)
		w.counted(r, r.Intn(32), r.Intn(32), s)
	}
}
