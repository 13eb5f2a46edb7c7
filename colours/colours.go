// Package colours: what PLTE and tRNS say, and the colour that a pixel's samples are (P5, P8).
package colours

import (
	"pixels/api"
	"pixels/head"
)

const (
	// PaletteSize and ClearSize are the most bytes that PLTE and tRNS have.
	PaletteSize = 768
	ClearSize   = 256
)

// opaque is the alpha of a pixel that hides all behind it.
const opaque = 65535

// Table holds the bytes of PLTE and tRNS, and how many there are.
type Table struct {
	palette [PaletteSize]byte
	clear   [ClearSize]byte
	colours int
	clears  int // bytes of tRNS
}

// SetColours says how many colours the palette has.
func (t *Table) SetColours(n int) {
	t.colours = n
}

// SetClears says how many bytes tRNS has.
func (t *Table) SetClears(n int) {
	t.clears = n
}

// Colours answers how many colours the palette has.
func (t *Table) Colours() int {
	return t.colours
}

// LayPalette lays a byte of PLTE.
func (t *Table) LayPalette(i int, b byte) {
	if i >= 0 && i < PaletteSize {
		t.palette[i] = b
	}
}

// LayClear lays a byte of tRNS.
func (t *Table) LayClear(i int, b byte) {
	if i >= 0 && i < ClearSize {
		t.clear[i] = b
	}
}

// ClearSample answers the i-th sample that tRNS says.
func (t *Table) ClearSample(i int) int {
	if i < 0 || i >= ClearSize/2 {
		return 0
	}
	return int(t.clear[2*i])<<8 | int(t.clear[2*i+1])
}

// Colour answers red, green, blue and alpha of a pixel with these samples.
func (t *Table) Colour(h head.Head, samples [4]int) [4]int {
	if h.Kind == api.Palette {
		return t.entry(samples[0])
	}
	var wide [4]int
	for i := 0; i < len(wide); i++ {
		wide[i] = samples[i] * scale(h.Depth)
	}
	switch h.Kind {
	case api.Grey:
		return [4]int{wide[0], wide[0], wide[0], t.alpha(h, samples)}
	case api.GreyAlpha:
		return [4]int{wide[0], wide[0], wide[0], wide[1]}
	case api.Rgb:
		return [4]int{wide[0], wide[1], wide[2], t.alpha(h, samples)}
	}
	return wide
}

// alpha: a pixel whose samples are just tRNS's is clear.
func (t *Table) alpha(h head.Head, samples [4]int) int {
	if t.clears == 0 {
		return opaque
	}
	for i := 0; i < head.Samples(h.Kind) && i < len(samples); i++ {
		if samples[i] != t.ClearSample(i) {
			return opaque
		}
	}
	return 0
}

// entry answers the i-th colour of the palette.
func (t *Table) entry(i int) [4]int {
	if i < 0 || i >= PaletteSize/3 {
		return [4]int{}
	}
	alpha := opaque
	if i < t.clears && i < ClearSize {
		alpha = int(t.clear[i]) * scale(8)
	}
	red := int(t.palette[3*i]) * scale(8)
	green := int(t.palette[3*i+1]) * scale(8)
	blue := int(t.palette[3*i+2]) * scale(8)
	return [4]int{red, green, blue, alpha}
}

// scale is 65535 divided by a depth's greatest value; for each depth that leaves no rest.
func scale(depth int) int {
	switch depth {
	case 1:
		return 65535
	case 2:
		return 21845
	case 4:
		return 4369
	case 8:
		return 257
	}
	return 1
}
