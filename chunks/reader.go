// Package chunks: a file taken byte by byte: its signature, its chunks, their order, sums and contents (P2, P4, P5).
package chunks

import (
	"pixels/api"
	"pixels/colours"
	"pixels/crc"
	"pixels/head"
	"pixels/inflate"
	"pixels/picture"
	"pixels/rows"
)

const (
	sign     = "\x89PNG\r\n\x1a\n"
	signSize = uint32(len(sign))

	numberSize = 4
	lengthEnd  = 1 << 31
)

// What the next byte belongs to.
const (
	inSign = iota
	inLength
	inType
	inData
	inSum
	behindEnd
)

// Reader has read a file up to some byte. Behind an error it is not to be given more. It holds arrays, no slices, so that a copy of it has nothing in common with it.
type Reader struct {
	part   int
	taken  uint32 // bytes of the part
	number uint32 // of the part's bytes, where it is a number

	length    uint32
	chunkType uint32
	sum       uint32

	head   head.Head
	raw    [head.Size]byte
	table  colours.Table
	stream inflate.Stream
	rows   rows.Reader

	seenPalette bool
	seenClear   bool
	seenData    bool
	dataOver    bool // a chunk stands behind IDATs
}

// Take reads the file's next byte and answers the error that shows at it.
func (x *Reader) Take(b byte) api.Errno {
	switch x.part {
	case inSign:
		return x.takeSign(b)
	case inLength:
		return x.takeLength(b)
	case inType:
		return x.takeType(b)
	case inData:
		return x.takeData(b)
	case inSum:
		return x.takeSum(b)
	}
	return api.ErrTrail
}

// Ended tells whether the last byte of IEND was read.
func (x *Reader) Ended() bool {
	return x.part == behindEnd
}

// Head answers the header, with a width of 0 until it was accepted.
func (x *Reader) Head() head.Head {
	return x.head
}

// Known, Pix and Show answer the picture's lists (P8), fresh ones each time.
func (x *Reader) Known() []int {
	return picture.Known(x.head, &x.rows)
}

func (x *Reader) Pix() []int {
	return picture.Pix(x.head, &x.rows, &x.table)
}

func (x *Reader) Show() []int {
	return picture.Show(x.head, &x.rows, &x.table)
}

func (x *Reader) enter(part int) {
	x.part = part
	x.taken = 0
	x.number = 0
}

// takeNumber tells whether the number of four bytes is whole with this one.
func (x *Reader) takeNumber(b byte) bool {
	x.number = x.number<<8 | uint32(b)
	x.taken++
	return x.taken == numberSize
}

func (x *Reader) takeSign(b byte) api.Errno {
	if x.taken >= signSize || b != sign[x.taken] {
		return api.ErrSign
	}
	x.taken++
	if x.taken == signSize {
		x.enter(inLength)
	}
	return api.OK
}

func (x *Reader) takeLength(b byte) api.Errno {
	if !x.takeNumber(b) {
		return api.OK
	}
	if x.number >= lengthEnd {
		return api.ErrLen
	}
	x.length = x.number
	x.sum = crc.Start
	x.enter(inType)
	return api.OK
}

func (x *Reader) takeType(b byte) api.Errno {
	x.sum = crc.Add(x.sum, b)
	if !x.takeNumber(b) {
		return api.OK
	}
	x.chunkType = x.number
	e := x.checkType()
	if e != api.OK {
		return e
	}
	x.noteType()
	x.enter(inData)
	if x.length == 0 {
		x.enter(inSum)
	}
	return api.OK
}

func (x *Reader) takeData(b byte) api.Errno {
	x.sum = crc.Add(x.sum, b)
	e := x.keep(b)
	if e != api.OK {
		return e
	}
	x.taken++
	if x.taken == x.length {
		x.enter(inSum)
	}
	return api.OK
}

func (x *Reader) takeSum(b byte) api.Errno {
	if !x.takeNumber(b) {
		return api.OK
	}
	if x.number != crc.End(x.sum) {
		return api.ErrCrc
	}
	e := x.accept()
	if e != api.OK {
		return e
	}
	if x.chunkType == iend {
		x.enter(behindEnd)
		return api.OK
	}
	x.enter(inLength)
	return api.OK
}
