// Package deflate: the stream that holds the rows' bytes: its head, blocks and sum (P6, P11, P12).
package deflate

import (
	"pixels/adler"
	"pixels/api"
	"pixels/codes"
	"pixels/shortest"
	"pixels/tokens"
	"pixels/turns"
)

// The kinds of blocks.
const (
	stored  = 0
	fixed   = 1
	dynamic = 2
)

// writer has written a stream up to some block.
type writer struct {
	bits  bits
	fixed books
}

// Stream answers the stream of these bytes, as the choice has it. Of no bytes it has one block all the same, as a stream must.
func Stream(data []byte, ch api.Choice) []byte {
	x := writer{fixed: fixedBooks()}
	x.writeHead(ch.Window)
	search := tokens.Search{Window: windowSize(ch.Window), Places: ch.Search}
	part := max(ch.Part, 1)
	from := 0
	for k := 0; k == 0 || from < len(data); k++ {
		to := from + min(part, len(data)-from)
		kind := turns.Of(ch.Kinds, k)
		x.writeMark(to == len(data))
		x.writeBlock(kind, data[:to], from, search)
		from = to
	}
	x.bits.fill()
	x.writeSum(data)
	return x.bits.out
}

// windowSize: of a window that may be, 0 to 7.
func windowSize(window int) int {
	return 256 << uint(window&7)
}

// writeHead: the two bytes make a multiple of 31, with the least second one that does.
func (x *writer) writeHead(window int) {
	first := uint32(8+16*window) & 255
	x.bits.number(first, 8)
	x.bits.number((31-256*first%31)%31, 8)
}

// writeMark says whether the block is the last one.
func (x *writer) writeMark(last bool) {
	mark := uint32(0)
	if last {
		mark = 1
	}
	x.bits.number(mark, 1)
}

// writeBlock writes the block that begins at a place of data and ends where data ends.
func (x *writer) writeBlock(kind int, data []byte, from int, search tokens.Search) {
	if kind == stored {
		x.writeStored(data, from)
		return
	}
	l := tokens.Of(data, from, search)
	if kind == dynamic {
		x.writeDynamic(l)
		return
	}
	x.writeFixed(l)
}

// writeStored: the length stands there twice, the second time with all its bits turned. These pictures' bytes are fewer than 65536.
func (x *writer) writeStored(data []byte, from int) {
	size := uint32(len(data) - from)
	x.bits.number(stored, 2)
	x.bits.fill()
	x.bits.number(size, 16)
	x.bits.number(^size, 16)
	for i := max(from, 0); i < len(data); i++ {
		x.bits.number(uint32(data[i]), 8)
	}
}

func (x *writer) writeFixed(l []tokens.Token) {
	x.bits.number(fixed, 2)
	x.writeTokens(l, x.fixed)
}

// writeDynamic: the codes are the shortest for the symbols that this block has.
func (x *writer) writeDynamic(l []tokens.Token) {
	often := countsOf(l)
	literals := shortest.Lengths(often.literals[:], codes.MaxBits)
	distances := shortest.Lengths(often.distances[:], codes.MaxBits)
	x.bits.number(dynamic, 2)
	x.writeLengths(literals, distances)
	b := booksOf(literals, distances)
	x.writeTokens(l, b)
}

// writeSum: unlike the stream's other numbers it has its high byte first.
func (x *writer) writeSum(data []byte) {
	sum := adler.Start
	for i := 0; i < len(data); i++ {
		sum = adler.Add(sum, data[i])
	}
	for shift := 32; shift > 0; shift -= 8 {
		x.bits.number(sum>>uint(shift-8), 8)
	}
}
