// Package file: a whole file as it is written: its chunks in their order, and what they hold (P10, P11).
package file

import (
	"pixels/api"
	"pixels/chunks"
	"pixels/deflate"
	"pixels/head"
	"pixels/lines"
	"pixels/turns"
)

// Write answers the file of an image, as the choice has it. Neither is one that is refused.
func Write(im api.Image, ch api.Choice) string {
	h := head.Head{W: im.W, H: im.H, Depth: im.Depth, Kind: im.Kind, Lace: ch.Lace}
	rows := lines.Bytes(h, im.Pix, ch.Filters)
	stream := deflate.Stream(rows, ch)
	w := chunks.Begin()
	w.Head(h)
	if len(im.Pal) > 0 {
		w.Palette(singles(im.Pal))
	}
	if len(im.Clear) > 0 {
		w.Clear(clearOf(im))
	}
	writeData(&w, stream, ch.Cuts)
	w.End()
	return w.Text()
}

// writeData cuts the stream. Each round of the cuts has at least a byte of it; where it had none, the rounds would have to end too.
func writeData(w *chunks.Writer, stream []byte, cuts []int) {
	turn := 0
	for from := 0; from < len(stream) && turn < len(cuts)*len(stream); turn++ {
		size := max(turns.Of(cuts, turn), 0)
		to := from + min(size, len(stream)-from)
		w.Data(stream[from:to])
		from = to
	}
}

// clearOf: a palette's alphas have a byte each, samples two.
func clearOf(im api.Image) []byte {
	if im.Kind == api.Palette {
		return singles(im.Clear)
	}
	return pairs(im.Clear)
}

func singles(l []int) []byte {
	b := make([]byte, len(l))
	for i := 0; i < len(l); i++ {
		b[i] = byte(l[i])
	}
	return b
}

func pairs(l []int) []byte {
	var b []byte
	for i := 0; i < len(l); i++ {
		b = append(b, byte(l[i]>>8), byte(l[i]))
	}
	return b
}
