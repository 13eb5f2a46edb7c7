// Package pixels: PNG files, read piece by piece and written: see DOC.md.
package pixels

import (
	"pixels/api"
	"pixels/checks"
	"pixels/chunks"
	"pixels/file"
)

// Decoder is fed bytes and shows what is known.
type Decoder struct {
	file  chunks.Reader
	count int // bytes so far, up to an error
	err   api.Errno
	at    int
}

// New makes a decoder that was fed nothing (P3).
func New() *Decoder { return &Decoder{} }

// Feed takes more bytes (P3). No call may panic (P1): where there is no decoder, there is nothing to tell.
func (x *Decoder) Feed(piece string) (api.Errno, int) {
	if x == nil {
		return api.OK, 0
	}
	for i := 0; i < len(piece) && x.err == api.OK; i++ {
		e := x.file.Take(piece[i])
		if e != api.OK {
			x.fail(e)
			break
		}
		x.count++
	}
	return x.err, x.at
}

// Close says that no more bytes come (P3).
func (x *Decoder) Close() (api.Errno, int) {
	if x == nil {
		return api.OK, 0
	}
	if x.err == api.OK && !x.file.Ended() {
		x.fail(api.ErrCut)
	}
	return x.err, x.at
}

// fail tells an error behind the bytes that were taken so far.
func (x *Decoder) fail(e api.Errno) {
	x.err = e
	x.at = x.count
}

// Snap tells what is known (P8).
func (x *Decoder) Snap() api.Snap {
	if x == nil {
		return api.Snap{}
	}
	s := api.Snap{Err: x.err, At: x.at}
	s.Done = x.err == api.OK && x.file.Ended()
	h := x.file.Head()
	if h.W == 0 {
		return s
	}
	s.W = h.W
	s.H = h.H
	s.Kind = h.Kind
	s.Depth = h.Depth
	s.Lace = h.Lace
	s.Known = x.file.Known()
	s.Pix = x.file.Pix()
	s.Show = x.file.Show()
	return s
}

// Encoder writes files. It keeps nothing, as a file hangs on the image and the choice alone (P10).
type Encoder struct{}

// NewEncoder makes an encoder (P9).
func NewEncoder() *Encoder { return &Encoder{} }

// Encode writes the file of an image, as the choice has it (P9 to P12).
func (x *Encoder) Encode(im api.Image, ch api.Choice) (string, api.Errno) {
	e := checks.Image(im)
	if e != api.OK {
		return "", e
	}
	e = checks.Choice(ch)
	if e != api.OK {
		return "", e
	}
	return file.Write(im, ch), api.OK
}
