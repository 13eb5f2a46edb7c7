package codes

// Book has the codes of symbols as they are written.
type Book struct {
	codes [MaxSymbols]uint32
	sizes [MaxSymbols]byte
}

// BookOf answers the book whose symbols have codes of these lengths; 0: no code. A length above MaxBits is none.
func BookOf(lengths []byte) Book {
	var b Book
	next := uint32(0)
	for bits := byte(1); bits <= MaxBits; bits++ {
		for i := 0; i < len(lengths) && i < MaxSymbols; i++ {
			if lengths[i] == bits {
				b.codes[i] = next
				b.sizes[i] = bits
				next++
			}
		}
		next *= 2
	}
	return b
}

// Code answers a symbol's code and how many bits it has; 0 and 0, if it has none.
func (b *Book) Code(symbol int) (uint32, uint) {
	if symbol < 0 || symbol >= MaxSymbols {
		return 0, 0
	}
	return b.codes[symbol], uint(b.sizes[symbol])
}
