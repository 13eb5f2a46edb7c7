// Package deflate: the stream that holds the rows' bytes: its head, blocks and sum (P6, P11, P12).
package deflate

import (
	"pixels/adler"
	"pixels/api"
	"pixels/codes"
	"pixels/turns"
)

// The kinds of blocks that are written. What may be of kind 2 is of kind 1 for now.
const (
	stored = 0
	fixed  = 1
)

// endOfBlock is the symbol behind a block's last byte.
const endOfBlock = 256

// writer has written a stream up to some block.
type writer struct {
	bits     bits
	literals codes.Book // of blocks of kind 1
}

// Stream answers the stream of these bytes, as the choice has it. Of no bytes it has one block all the same, as a stream must.
func Stream(data []byte, ch api.Choice) []byte {
	lengths := codes.FixedLiterals()
	x := writer{literals: codes.BookOf(lengths[:])}
	x.writeHead(ch.Window)
	part := max(ch.Part, 1)
	from := 0
	for k := 0; k == 0 || from < len(data); k++ {
		to := from + min(part, len(data)-from)
		kind := turns.Of(ch.Kinds, k)
		x.writeBlock(kind, data[from:to], to == len(data))
		from = to
	}
	x.bits.fill()
	x.writeSum(data)
	return x.bits.out
}

// writeHead: the two bytes make a multiple of 31, with the least second one that does.
func (x *writer) writeHead(window int) {
	first := uint32(8+16*window) & 255
	x.bits.number(first, 8)
	x.bits.number((31-256*first%31)%31, 8)
}

func (x *writer) writeBlock(kind int, data []byte, last bool) {
	mark := uint32(0)
	if last {
		mark = 1
	}
	x.bits.number(mark, 1)
	if kind == stored {
		x.writeStored(data)
		return
	}
	x.writeFixed(data)
}

// writeStored: the length stands there twice, the second time with all its bits turned. These pictures' bytes are fewer than 65536.
func (x *writer) writeStored(data []byte) {
	size := uint32(len(data))
	x.bits.number(stored, 2)
	x.bits.fill()
	x.bits.number(size, 16)
	x.bits.number(^size, 16)
	for i := 0; i < len(data); i++ {
		x.bits.number(uint32(data[i]), 8)
	}
}

func (x *writer) writeFixed(data []byte) {
	x.bits.number(fixed, 2)
	for i := 0; i < len(data); i++ {
		x.writeSymbol(int(data[i]))
	}
	x.writeSymbol(endOfBlock)
}

func (x *writer) writeSymbol(symbol int) {
	code, size := x.literals.Code(symbol)
	x.bits.code(code, size)
}

// writeSum: unlike the stream's other numbers it has its high byte first.
func (x *writer) writeSum(data []byte) {
	sum := adler.Start
	for i := 0; i < len(data); i++ {
		sum = adler.Add(sum, data[i])
	}
	for shift := 32; shift > 0; shift -= 8 {
		x.bits.number(sum>>uint(shift-8), 8)
	}
}
