// Package inflate: the stream of all IDATs' data, taken byte by byte, bit by bit (P6).
package inflate

import (
	"pixels/adler"
	"pixels/api"
	"pixels/codes"
	"pixels/rows"
)

// What the next bits are: a number, or (of the last three) a code.
const (
	inHead = iota
	inBlock
	inStoredSize
	inStored
	inCounts
	inShortLength
	inRepeat
	inLengthRest
	inDistanceRest
	inSum
	behindSum
	inCodeLength
	inSymbol
	inDistance
)

// Stream has read the stream up to some bit. Begin makes one; behind an error it is not to be given more. It holds arrays, no slices, so that a copy of it has nothing in common with it.
type Stream struct {
	part   int
	number uint32 // of the bits so far
	got    uint   // how many they are
	wanted uint
	path   codes.Path
	skip   bool // the rest of the byte is passed over

	window int
	last   bool // the block is the last one
	left   int  // bytes of a stored block that are still to come

	literals  codes.Set
	distances codes.Set
	tables    tables

	length int // of a copy, or the least that its symbol says
	base   int // the least distance that its symbol says

	history [rows.MaxBytes]byte
	count   int // bytes that were given so far
	sum     uint32
}

// Begin answers a stream that was given nothing.
func Begin() Stream {
	x := Stream{sum: adler.Start}
	x.enter(inHead, 16)
	return x
}

// Ended tells whether the stream's sum was read and is right.
func (x *Stream) Ended() bool {
	return x.part == behindSum
}

// Take reads the stream's next byte, gives the bytes that it brings to the rows, and answers the first error that shows.
func (x *Stream) Take(b byte, to *rows.Reader) api.Errno {
	if x.Ended() {
		return api.ErrExtra
	}
	x.skip = false
	for i := uint(0); i < 8 && !x.skip; i++ {
		e := x.takeBit(uint32(b>>i)&1, to)
		if e != api.OK {
			return e
		}
	}
	return api.OK
}

func (x *Stream) enter(part int, bits uint) {
	x.part = part
	x.wanted = bits
	x.got = 0
	x.number = 0
	x.path = codes.Path{}
}

func (x *Stream) takeBit(bit uint32, to *rows.Reader) api.Errno {
	switch x.part {
	case inCodeLength:
		symbol := x.tables.short.Step(&x.path, int(bit))
		return x.takeCodeLength(symbol)
	case inSymbol:
		symbol := x.literals.Step(&x.path, int(bit))
		return x.takeSymbol(symbol, to)
	case inDistance:
		symbol := x.distances.Step(&x.path, int(bit))
		return x.takeDistance(symbol, to)
	}
	n := x.number | bit<<x.got
	x.number = n
	x.got++
	if x.got < x.wanted {
		return api.OK
	}
	return x.takeNumber(n, to)
}

// takeNumber goes on behind a number of which all bits are there.
func (x *Stream) takeNumber(n uint32, to *rows.Reader) api.Errno {
	switch x.part {
	case inHead:
		return x.takeHead(n)
	case inBlock:
		return x.takeBlock(n)
	case inStoredSize:
		return x.takeStoredSize(n)
	case inStored:
		return x.takeStored(byte(n), to)
	case inCounts:
		return x.takeCounts(n)
	case inShortLength:
		return x.takeShortLength(n)
	case inRepeat:
		return x.takeRepeat(n)
	case inLengthRest:
		return x.takeLengthRest(n)
	case inDistanceRest:
		return x.takeDistanceRest(n, to)
	}
	return x.takeSum(n)
}

// takeHead: the two bytes ahead of the blocks, the first in the low bits.
func (x *Stream) takeHead(n uint32) api.Errno {
	c := n & 255
	f := n >> 8
	if c%16 != 8 || c/16 > 7 || (256*c+f)%31 != 0 || f&32 != 0 {
		return api.ErrZlib
	}
	x.window = 256 << (c / 16)
	x.enter(inBlock, 3)
	return api.OK
}

// give hands a byte to the rows, whose errors come first.
func (x *Stream) give(b byte, to *rows.Reader) api.Errno {
	e := to.Take(b)
	if e != api.OK {
		return e
	}
	if x.count >= rows.MaxBytes {
		return api.ErrMany
	}
	x.history[x.count] = b
	x.count++
	x.sum = adler.Add(x.sum, b)
	return api.OK
}

// takeSum: the sum's high byte comes first, so it stands in the low bits.
func (x *Stream) takeSum(n uint32) api.Errno {
	if n<<24|n<<8&0xFF0000|n>>8&0xFF00|n>>24 != x.sum {
		return api.ErrAdler
	}
	x.enter(behindSum, 0)
	return api.OK
}
