package chunks

import (
	"pixels/crc"
	"pixels/head"
)

// Writer has written a file up to some chunk. Begin makes one.
type Writer struct {
	out []byte
}

// Begin answers a writer of a file that has its signature alone.
func Begin() Writer {
	return Writer{out: []byte(sign)}
}

// Text answers the file so far.
func (w *Writer) Text() string {
	return string(w.out)
}

// Head, Palette, Clear, Data and End write the next chunk, of the type that their names say.
func (w *Writer) Head(h head.Head) {
	data := h.Data()
	w.add(ihdr, data[:])
}

func (w *Writer) Palette(data []byte) {
	w.add(plte, data)
}

func (w *Writer) Clear(data []byte) {
	w.add(trns, data)
}

func (w *Writer) Data(data []byte) {
	w.add(idat, data)
}

func (w *Writer) End() {
	w.add(iend, nil)
}

// add writes a chunk. Its sum goes over its type too.
func (w *Writer) add(chunkType uint32, data []byte) {
	w.number(uint32(len(data)))
	start := len(w.out)
	w.number(chunkType)
	w.out = append(w.out, data...)
	sum := crc.Start
	for i := start; i < len(w.out); i++ {
		sum = crc.Add(sum, w.out[i])
	}
	w.number(crc.End(sum))
}

func (w *Writer) number(n uint32) {
	w.out = append(w.out, byte(n>>24), byte(n>>16), byte(n>>8), byte(n))
}
