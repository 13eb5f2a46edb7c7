package deflate

// bits lays bits into bytes, from the lowest bit of each byte on.
type bits struct {
	out  []byte
	rest uint32 // bits that do not make a byte yet
	size uint   // how many they are, at most 7
}

// number writes a number of at most 16 bits, its lowest bit first.
func (w *bits) number(n uint32, size uint) {
	low := n & (1<<size - 1)
	w.rest |= low << w.size
	w.size += size
	for w.size >= 8 {
		w.out = append(w.out, byte(w.rest))
		w.rest >>= 8
		w.size -= 8
	}
}

// code writes a code, its highest bit first.
func (w *bits) code(n uint32, size uint) {
	for ; size > 0; size-- {
		w.number(n>>(size-1), 1)
	}
}

// fill leads on to the next whole byte.
func (w *bits) fill() {
	if w.size > 0 {
		w.number(0, 8-w.size)
	}
}
