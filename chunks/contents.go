package chunks

import (
	"pixels/api"
	"pixels/head"
)

// keep lays a byte of data where it is needed, and answers the error that shows at it. checkType has bounded the lengths of all chunks but IDAT's and those that are passed over.
func (x *Reader) keep(b byte) api.Errno {
	switch x.chunkType {
	case ihdr:
		if x.taken < head.Size {
			x.raw[x.taken] = b
		}
	case plte:
		x.table.LayPalette(int(x.taken), b)
	case trns:
		x.table.LayClear(int(x.taken), b)
	case idat:
		return x.takeStream(b)
	}
	return api.OK
}

// takeStream: whether there are enough rows shows when the stream has ended.
func (x *Reader) takeStream(b byte) api.Errno {
	e := x.stream.Take(b, &x.rows)
	if e != api.OK {
		return e
	}
	if x.stream.Ended() && !x.rows.Whole() {
		return api.ErrFew
	}
	return api.OK
}

// accept answers the error that a chunk's data shows once its sum is right.
func (x *Reader) accept() api.Errno {
	switch x.chunkType {
	case ihdr:
		return x.acceptHead()
	case trns:
		return x.acceptClear()
	}
	return api.OK
}

func (x *Reader) acceptHead() api.Errno {
	h, e := head.Read(x.raw)
	if e != api.OK {
		return e
	}
	x.head = h
	return api.OK
}

// acceptClear: a palette's alphas may be any bytes, samples must have their depth.
func (x *Reader) acceptClear() api.Errno {
	if x.head.Kind == api.Palette {
		return api.OK
	}
	samples := head.Samples(x.head.Kind)
	for i := 0; i < samples; i++ {
		if uint32(x.table.ClearSample(i)) >= x.head.Levels() {
			return api.ErrTrans
		}
	}
	return api.OK
}
