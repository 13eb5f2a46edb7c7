package chunks

import (
	"pixels/api"
	"pixels/colours"
	"pixels/head"
	"pixels/inflate"
	"pixels/rows"
)

// The types that are known, as the numbers that their four bytes make.
const (
	ihdr = 'I'<<24 | 'H'<<16 | 'D'<<8 | 'R'
	plte = 'P'<<24 | 'L'<<16 | 'T'<<8 | 'E'
	trns = 't'<<24 | 'R'<<16 | 'N'<<8 | 'S'
	idat = 'I'<<24 | 'D'<<16 | 'A'<<8 | 'T'
	iend = 'I'<<24 | 'E'<<16 | 'N'<<8 | 'D'
)

// checkType answers the error that a chunk's length and type show, at the place where it stands. The order of the tests is the promise (P4).
func (x *Reader) checkType() api.Errno {
	if !isType(x.chunkType) {
		return api.ErrType
	}
	if x.head.W == 0 {
		return x.checkFirst()
	}
	if x.chunkType != idat && x.seenData && !x.dataOver && !x.stream.Ended() {
		return api.ErrShort
	}
	switch x.chunkType {
	case ihdr:
		return api.ErrOrder
	case plte:
		return x.checkPalette()
	case trns:
		return x.checkClear()
	case idat:
		return x.checkData()
	case iend:
		return x.checkEnd()
	}
	if isCapital(byte(x.chunkType >> 24)) {
		return api.ErrType
	}
	return api.OK
}

// isType: four letters, of which the third is a capital.
func isType(n uint32) bool {
	return isLetter(byte(n>>24)) && isLetter(byte(n>>16)) && isCapital(byte(n>>8)) && isLetter(byte(n))
}

func isLetter(b byte) bool {
	return isCapital(b) || 'a' <= b && b <= 'z'
}

func isCapital(b byte) bool {
	return 'A' <= b && b <= 'Z'
}

func (x *Reader) checkFirst() api.Errno {
	if x.chunkType != ihdr {
		return api.ErrOrder
	}
	if x.length != head.Size {
		return api.ErrSize
	}
	return api.OK
}

func (x *Reader) checkPalette() api.Errno {
	if x.seenData || x.seenPalette || x.seenClear {
		return api.ErrOrder
	}
	if x.head.Kind == api.Grey || x.head.Kind == api.GreyAlpha {
		return api.ErrOrder
	}
	if x.length < 3 || x.length > colours.PaletteSize || x.length%3 != 0 {
		return api.ErrSize
	}
	if x.head.Kind == api.Palette && x.length > 3*x.head.Levels() {
		return api.ErrSize
	}
	return api.OK
}

func (x *Reader) checkClear() api.Errno {
	if x.seenData || x.seenClear {
		return api.ErrOrder
	}
	switch x.head.Kind {
	case api.Grey, api.Rgb:
		if x.length != 2*uint32(head.Samples(x.head.Kind)) {
			return api.ErrSize
		}
		return api.OK
	case api.Palette:
		return x.checkAlphas()
	}
	return api.ErrOrder
}

func (x *Reader) checkAlphas() api.Errno {
	if !x.seenPalette {
		return api.ErrOrder
	}
	if x.length < 1 || x.length > uint32(x.table.Colours()) {
		return api.ErrSize
	}
	return api.OK
}

func (x *Reader) checkData() api.Errno {
	if x.dataOver || x.head.Kind == api.Palette && !x.seenPalette {
		return api.ErrOrder
	}
	return api.OK
}

func (x *Reader) checkEnd() api.Errno {
	if !x.seenData {
		return api.ErrOrder
	}
	if x.length != 0 {
		return api.ErrSize
	}
	return api.OK
}

// beginData: all IDATs together hold one stream.
func (x *Reader) beginData() {
	if x.seenData {
		return
	}
	x.seenData = true
	x.stream = inflate.Begin()
	x.rows = rows.Begin(x.head, x.table.Colours())
}

// noteType keeps what later chunks' order and sizes hang on.
func (x *Reader) noteType() {
	switch x.chunkType {
	case plte:
		x.seenPalette = true
		x.table.SetColours(int(x.length / 3))
	case trns:
		x.seenClear = true
		x.table.SetClears(int(x.length))
	case idat:
		x.beginData()
	}
	if x.seenData && x.chunkType != idat {
		x.dataOver = true
	}
}
