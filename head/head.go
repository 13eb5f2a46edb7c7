// Package head: what IHDR says, and which kinds and depths there are (P5).
package head

import "pixels/api"

// Size is the length of IHDR's data.
const Size = 13

// sideEnd is the first number that the format has for no side, whatever sides are taken here.
const sideEnd = 1 << 31

// Head is a header that was accepted; with a width of 0 there is none yet.
type Head struct {
	W, H, Depth, Kind, Lace int
}

// Read answers the header that the data says, or why there is none.
func Read(data [Size]byte) (Head, api.Errno) {
	width := number(data[0], data[1], data[2], data[3])
	height := number(data[4], data[5], data[6], data[7])
	depth := int(data[8])
	kind := int(data[9])
	if !isSide(width) || !isSide(height) || !Fits(kind, depth) {
		return Head{}, api.ErrHead
	}
	if data[10] != 0 || data[11] != 0 || data[12] > 1 {
		return Head{}, api.ErrHead
	}
	if width > api.MaxSide || height > api.MaxSide {
		return Head{}, api.ErrLarge
	}
	return Head{W: int(width), H: int(height), Depth: depth, Kind: kind, Lace: int(data[12])}, api.OK
}

// Data answers what Read reads as this header.
func (h Head) Data() [Size]byte {
	return [Size]byte{
		byte(h.W >> 24), byte(h.W >> 16), byte(h.W >> 8), byte(h.W),
		byte(h.H >> 24), byte(h.H >> 16), byte(h.H >> 8), byte(h.H),
		byte(h.Depth), byte(h.Kind), 0, 0, byte(h.Lace),
	}
}

// number keeps to 32 bits without a sign, so that great sides are told apart whatever size an int has.
func number(a, b, c, d byte) uint32 {
	return uint32(a)<<24 | uint32(b)<<16 | uint32(c)<<8 | uint32(d)
}

func isSide(n uint32) bool {
	return n != 0 && n < sideEnd
}

// Fits tells whether there is such a kind of colour and it may have that depth.
func Fits(kind, depth int) bool {
	switch kind {
	case api.Grey:
		return depth == 1 || depth == 2 || depth == 4 || depth == 8 || depth == 16
	case api.Palette:
		return depth == 1 || depth == 2 || depth == 4 || depth == 8
	case api.Rgb, api.GreyAlpha, api.RgbAlpha:
		return depth == 8 || depth == 16
	}
	return false
}

// Samples answers how many samples a pixel of that kind has, 0 if there is no such kind.
func Samples(kind int) int {
	switch kind {
	case api.Grey, api.Palette:
		return 1
	case api.GreyAlpha:
		return 2
	case api.Rgb:
		return 3
	case api.RgbAlpha:
		return 4
	}
	return 0
}

// Levels answers how many values a sample may have.
func (h Head) Levels() uint32 {
	return 1 << uint(h.Depth)
}
