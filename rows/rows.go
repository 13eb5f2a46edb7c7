// Package rows: the bytes that the stream gives, taken one by one: filters, rows, passes, samples (P7).
package rows

import (
	"pixels/api"
	"pixels/filters"
	"pixels/head"
	"pixels/passes"
)

const (
	// MaxBytes is how many bytes the rows of the greatest picture have: interlaced, 30 rows, pixels of 8 bytes.
	MaxBytes = 30 + 8*places

	places     = api.MaxSide * api.MaxSide
	maxRow     = 8 * api.MaxSide
	maxSamples = 4
)

// Reader has taken a picture's rows up to some byte. Begin makes one; behind an error it is not to be given more.
type Reader struct {
	head    head.Head
	colours int // of the palette

	pass    int // which pass, from 0 on
	line    int // which row of the pass
	columns int // of the pass
	lines   int
	size    int // bytes of each row of the pass, without its filter

	taken  int // bytes of the row, its filter too
	filter byte
	row    [maxRow]byte
	above  [maxRow]byte // the row ahead in the pass

	known   [places]bool
	samples [places][maxSamples]uint16
}

// Begin answers a reader of such a picture that was given nothing.
func Begin(h head.Head, colours int) Reader {
	x := Reader{head: h, colours: colours, pass: -1}
	x.nextPass()
	return x
}

// Take reads the next byte and answers the error that shows at it.
func (x *Reader) Take(b byte) api.Errno {
	if x.Whole() {
		return api.ErrMany
	}
	x.taken++
	if x.taken == 1 {
		return x.takeFilter(b)
	}
	x.lay(x.taken-2, b)
	if x.taken <= x.size {
		return api.OK
	}
	return x.endRow()
}

// Whole tells whether all rows are there.
func (x *Reader) Whole() bool {
	return x.pass >= passes.Count(x.head.Lace)
}

// Known tells whether the pixel is known.
func (x *Reader) Known(column, row int) bool {
	i, ok := index(column, row)
	return ok && x.known[i]
}

// Samples answers the samples of a pixel; 0 for those that it does not have or that are not known.
func (x *Reader) Samples(column, row int) [maxSamples]int {
	var l [maxSamples]int
	i, ok := index(column, row)
	if !ok {
		return l
	}
	for k := 0; k < maxSamples; k++ {
		l[k] = int(x.samples[i][k])
	}
	return l
}

func index(column, row int) (int, bool) {
	if column < 0 || column >= api.MaxSide || row < 0 || row >= api.MaxSide {
		return 0, false
	}
	return row*api.MaxSide + column, true
}

func (x *Reader) takeFilter(b byte) api.Errno {
	if b > filters.Last {
		return api.ErrFilter
	}
	x.filter = b
	return api.OK
}

// lay undoes the filter of the row's i-th byte.
func (x *Reader) lay(i int, b byte) {
	if i < 0 || i >= maxRow {
		return
	}
	var left, corner byte
	back := i - x.step()
	if back >= 0 && back < maxRow {
		left = x.row[back]
		corner = x.above[back]
	}
	x.row[i] = b + filters.Guess(x.filter, left, x.above[i], corner)
}

// step is how far back the byte to the left stands.
func (x *Reader) step() int {
	return max(1, x.pixelBits()/8)
}

func (x *Reader) pixelBits() int {
	return head.Samples(x.head.Kind) * x.head.Depth
}

// endRow makes a row's pixels known, all or, if one is an error, none.
func (x *Reader) endRow() api.Errno {
	if x.head.Kind == api.Palette && !x.hasColours() {
		return api.ErrIndex
	}
	x.layPixels()
	x.above = x.row
	x.taken = 0
	x.line++
	if x.line >= x.lines {
		x.nextPass()
	}
	return api.OK
}

// hasColours tells whether each of the row's pixels has a colour of the palette.
func (x *Reader) hasColours() bool {
	for i := 0; i < x.columns; i++ {
		if int(x.sample(i)) >= x.colours {
			return false
		}
	}
	return true
}

func (x *Reader) layPixels() {
	p := passes.Of(x.head.Lace, x.pass)
	row := p.Rows.Place(x.line)
	samples := head.Samples(x.head.Kind)
	for i := 0; i < x.columns; i++ {
		at, ok := index(p.Columns.Place(i), row)
		if !ok {
			continue
		}
		for k := 0; k < samples && k < maxSamples; k++ {
			x.samples[at][k] = x.sample(i*samples + k)
		}
		x.known[at] = true
	}
}

// sample answers the row's i-th sample.
func (x *Reader) sample(i int) uint16 {
	bit := i * x.head.Depth
	at := bit / 8
	if at < 0 || at >= maxRow {
		return 0
	}
	if x.head.Depth < 16 {
		return bitsOf(x.row[at], bit%8, x.head.Depth)
	}
	if at+1 >= maxRow {
		return 0
	}
	return uint16(x.row[at])<<8 | uint16(x.row[at+1])
}

// bitsOf answers n bits of a byte behind the first ones, the highest bit first.
func bitsOf(b byte, ahead, n int) uint16 {
	if ahead < 0 || n < 0 || ahead+n > 8 {
		return 0
	}
	rest := uint16(b) >> uint(8-ahead-n)
	return rest & (1<<uint(n) - 1)
}

// nextPass goes on to the next pass that has pixels, or behind the last.
func (x *Reader) nextPass() {
	x.pass++
	for x.pass < passes.Count(x.head.Lace) {
		p := passes.Of(x.head.Lace, x.pass)
		x.columns = p.Columns.Within(x.head.W)
		x.lines = p.Rows.Within(x.head.H)
		if x.columns > 0 && x.lines > 0 {
			break
		}
		x.pass++
	}
	x.line = 0
	x.size = (x.columns*x.pixelBits() + 7) / 8
	x.above = [maxRow]byte{}
}
