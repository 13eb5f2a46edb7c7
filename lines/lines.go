// Package lines: a picture's rows as the stream holds them: passes, samples laid into bytes, filters (P7, P11).
package lines

import (
	"pixels/api"
	"pixels/filters"
	"pixels/head"
	"pixels/passes"
	"pixels/turns"
)

// maxRow is how many bytes the longest row has, of pixels of 8 bytes.
const maxRow = 8 * api.MaxSide

// writer has written a picture's rows up to some row.
type writer struct {
	head  head.Head
	out   []byte
	count int // rows so far, over all passes
	row   [maxRow]byte
	above [maxRow]byte // the row ahead in the pass
}

// Bytes answers the bytes of all rows, each with its filter ahead.
func Bytes(h head.Head, pix, chosen []int) []byte {
	x := writer{head: h}
	for k := 0; k < passes.Count(h.Lace); k++ {
		p := passes.Of(h.Lace, k)
		x.writePass(p, pix, chosen)
	}
	return x.out
}

func (x *writer) writePass(p passes.Pass, pix, chosen []int) {
	columns := p.Columns.Within(x.head.W)
	lines := p.Rows.Within(x.head.H)
	if columns == 0 {
		return
	}
	size := (columns*x.pixelBits() + 7) / 8
	x.above = [maxRow]byte{}
	for i := 0; i < lines; i++ {
		x.layRow(p, i, columns, pix)
		filter := turns.Of(chosen, x.count)
		x.writeRow(byte(filter), size)
		x.above = x.row
		x.count++
	}
}

// layRow lays the samples of the pass's i-th row; what they leave of the last byte stays 0.
func (x *writer) layRow(p passes.Pass, i, columns int, pix []int) {
	x.row = [maxRow]byte{}
	samples := head.Samples(x.head.Kind)
	first := p.Rows.Place(i) * x.head.W
	for c := 0; c < columns; c++ {
		at := (first + p.Columns.Place(c)) * samples
		for k := 0; k < samples; k++ {
			if at+k >= 0 && at+k < len(pix) {
				x.laySample(c*samples+k, pix[at+k])
			}
		}
	}
}

// laySample lays the row's i-th sample, the highest bit first.
func (x *writer) laySample(i, value int) {
	bit := i * x.head.Depth
	at := bit / 8
	if at < 0 || at >= maxRow {
		return
	}
	if x.head.Depth < 16 {
		x.row[at] |= shifted(value, 8-bit%8-x.head.Depth)
		return
	}
	x.row[at] = byte(value >> 8)
	if at+1 < maxRow {
		x.row[at+1] = byte(value)
	}
}

func shifted(value, by int) byte {
	if by < 0 {
		return 0
	}
	return byte(value) << uint(by)
}

func (x *writer) writeRow(filter byte, size int) {
	x.out = append(x.out, filter)
	for i := 0; i < size && i < maxRow; i++ {
		b := x.row[i] - x.guess(filter, i)
		x.out = append(x.out, b)
	}
}

// guess answers what the filter takes for the row's i-th byte.
func (x *writer) guess(filter byte, i int) byte {
	if i < 0 || i >= maxRow {
		return 0
	}
	var left, corner byte
	back := i - max(1, x.pixelBits()/8)
	if back >= 0 && back < maxRow {
		left = x.row[back]
		corner = x.above[back]
	}
	return filters.Guess(filter, left, x.above[i], corner)
}

func (x *writer) pixelBits() int {
	return head.Samples(x.head.Kind) * x.head.Depth
}
