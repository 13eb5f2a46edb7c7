package inflate

import (
	"pixels/api"
	"pixels/codes"
	"pixels/copies"
	"pixels/rows"
)

// takeBlock: the bit that says whether the block is the last one, and its kind.
func (x *Stream) takeBlock(n uint32) api.Errno {
	x.last = n&1 == 1
	switch n >> 1 {
	case 0:
		x.skip = true
		x.enter(inStoredSize, 32)
	case 1:
		x.literals = fixedLiterals()
		x.distances = fixedDistances()
		x.enter(inSymbol, 0)
	case 2:
		x.enter(inCounts, 14)
	default:
		return api.ErrBlock
	}
	return api.OK
}

// endBlock: the sum stands at the next whole byte behind the last block.
func (x *Stream) endBlock() api.Errno {
	if x.last {
		x.skip = true
		x.enter(inSum, 32)
		return api.OK
	}
	x.enter(inBlock, 3)
	return api.OK
}

// takeStoredSize: the two numbers of a stored block, the first in the low bits.
func (x *Stream) takeStoredSize(n uint32) api.Errno {
	if n&0xFFFF+n>>16 != 0xFFFF {
		return api.ErrBlock
	}
	x.left = int(n & 0xFFFF)
	if x.left == 0 {
		return x.endBlock()
	}
	x.enter(inStored, 8)
	return api.OK
}

func (x *Stream) takeStored(b byte, to *rows.Reader) api.Errno {
	e := x.give(b, to)
	if e != api.OK {
		return e
	}
	x.left--
	if x.left == 0 {
		return x.endBlock()
	}
	x.enter(inStored, 8)
	return api.OK
}

func fixedLiterals() codes.Set {
	l := codes.FixedLiterals()
	return codes.Make(l[:])
}

func fixedDistances() codes.Set {
	l := codes.FixedDistances()
	return codes.Make(l[:])
}

// takeSymbol: a byte, the end of the block, or the length of a copy.
func (x *Stream) takeSymbol(symbol int, to *rows.Reader) api.Errno {
	switch {
	case symbol == codes.More:
		return api.OK
	case symbol < 0 || symbol >= copies.FirstLength+copies.Lengths:
		return api.ErrSymbol
	case symbol == codes.EndOfBlock:
		return x.endBlock()
	case symbol >= copies.FirstLength:
		return x.beginCopy(symbol)
	}
	x.enter(inSymbol, 0)
	return x.give(byte(symbol), to)
}

func (x *Stream) beginCopy(symbol int) api.Errno {
	least, bits := copies.Length(symbol)
	x.length = least
	if bits == 0 {
		x.enter(inDistance, 0)
		return api.OK
	}
	x.enter(inLengthRest, uint(bits))
	return api.OK
}

func (x *Stream) takeLengthRest(n uint32) api.Errno {
	x.length += int(n)
	x.enter(inDistance, 0)
	return api.OK
}

func (x *Stream) takeDistance(symbol int, to *rows.Reader) api.Errno {
	if symbol == codes.More {
		return api.OK
	}
	if symbol < 0 || symbol >= copies.Distances {
		return api.ErrSymbol
	}
	least, bits := copies.Distance(symbol)
	if bits == 0 {
		return x.giveCopy(least, to)
	}
	x.base = least
	x.enter(inDistanceRest, uint(bits))
	return api.OK
}

func (x *Stream) takeDistanceRest(n uint32, to *rows.Reader) api.Errno {
	distance := x.base + int(n)
	return x.giveCopy(distance, to)
}

// giveCopy gives the bytes one by one, as a copy may lead over its own beginning.
func (x *Stream) giveCopy(distance int, to *rows.Reader) api.Errno {
	if distance < 1 || distance > x.count || distance > x.window {
		return api.ErrFar
	}
	for i := 0; i < x.length; i++ {
		from := x.count - distance
		if from < 0 || from >= rows.MaxBytes {
			return api.ErrFar
		}
		b := x.history[from]
		e := x.give(b, to)
		if e != api.OK {
			return e
		}
	}
	x.enter(inSymbol, 0)
	return api.OK
}
