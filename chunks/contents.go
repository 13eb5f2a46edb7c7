package chunks

import (
	"pixels/api"
	"pixels/head"
)

// keep lays a byte of data where it is needed later. checkType has bounded the lengths; the tests here make the bounds plain.
func (x *Reader) keep(b byte) {
	i := x.taken
	switch x.chunkType {
	case ihdr:
		if i < head.Size {
			x.raw[i] = b
		}
	case plte:
		if i < paletteSize {
			x.palette[i] = b
		}
	case trns:
		if i < clearSize {
			x.clear[i] = b
		}
	case idat:
		if x.streamed < shortest {
			x.streamed++
		}
	}
}

// accept answers the error that a chunk's data shows once its sum is right.
func (x *Reader) accept() api.Errno {
	switch x.chunkType {
	case ihdr:
		return x.acceptHead()
	case trns:
		return x.acceptClear()
	}
	return api.OK
}

func (x *Reader) acceptHead() api.Errno {
	h, e := head.Read(x.raw)
	if e != api.OK {
		return e
	}
	x.head = h
	return api.OK
}

// acceptClear: a palette's alphas may be any bytes, samples must have their depth.
func (x *Reader) acceptClear() api.Errno {
	if x.head.Kind == api.Palette {
		return api.OK
	}
	samples := head.Samples(x.head.Kind)
	for i := 0; i < samples; i++ {
		if x.clearSample(i) >= x.head.Levels() {
			return api.ErrTrans
		}
	}
	return api.OK
}

func (x *Reader) clearSample(i int) uint32 {
	if i < 0 || i > clearSize/2-1 {
		return 0
	}
	return uint32(x.clear[2*i])<<8 | uint32(x.clear[2*i+1])
}
