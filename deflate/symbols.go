package deflate

import (
	"pixels/codes"
	"pixels/copies"
	"pixels/tokens"
)

// books are the codes that a block of kind 1 or 2 is written in.
type books struct {
	literals  codes.Book
	distances codes.Book
}

func booksOf(literals, distances []byte) books {
	var b books
	b.literals = codes.BookOf(literals)
	b.distances = codes.BookOf(distances)
	return b
}

func fixedBooks() books {
	literals := codes.FixedLiterals()
	distances := codes.FixedDistances()
	return booksOf(literals[:], distances[:])
}

// writeTokens: the tokens and the end of the block.
func (x *writer) writeTokens(l []tokens.Token, b books) {
	for i := 0; i < len(l); i++ {
		if l[i].Length == 0 {
			x.writeSymbol(int(l[i].Byte), &b.literals)
		} else {
			x.writeCopy(l[i], &b)
		}
	}
	x.writeSymbol(codes.EndOfBlock, &b.literals)
}

func (x *writer) writeCopy(t tokens.Token, b *books) {
	symbol := copies.LengthSymbol(t.Length)
	least, bits := copies.Length(symbol)
	x.writeSymbol(symbol, &b.literals)
	x.bits.number(uint32(t.Length-least), uint(bits))
	symbol = copies.DistanceSymbol(t.Distance)
	least, bits = copies.Distance(symbol)
	x.writeSymbol(symbol, &b.distances)
	x.bits.number(uint32(t.Distance-least), uint(bits))
}

func (x *writer) writeSymbol(symbol int, b *codes.Book) {
	code, size := b.Code(symbol)
	x.bits.code(code, size)
}
