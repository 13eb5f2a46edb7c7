// Package crc: the sum of a chunk (P2).
package crc

// turned is the polynomial, lowest power in the highest bit, since a byte's bits go in from the lowest on.
const turned = 0xEDB88320

// Start is the state of a sum that no byte went into.
const Start uint32 = 0xFFFFFFFF

// Add answers the state behind one more byte. A bit at a time: a table of 256 words is more than these small files earn.
func Add(state uint32, b byte) uint32 {
	state ^= uint32(b)
	for i := 0; i < 8; i++ {
		low := state & 1
		state >>= 1
		if low == 1 {
			state ^= turned
		}
	}
	return state
}

// End answers the sum, as a file holds it, of a state.
func End(state uint32) uint32 {
	return ^state
}
