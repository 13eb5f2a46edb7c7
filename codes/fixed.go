package codes

// fixedDistances: two more than copies have, so that all codes of five bits are there.
const fixedDistances = 32

// FixedLiterals answers the lengths of the codes of literals that a block of kind 1 has (P6).
func FixedLiterals() [MaxSymbols]byte {
	var l [MaxSymbols]byte
	for i := 0; i < len(l); i++ {
		switch {
		case i < 144:
			l[i] = 8
		case i < 256:
			l[i] = 9
		case i < 280:
			l[i] = 7
		default:
			l[i] = 8
		}
	}
	return l
}

// FixedDistances answers the lengths of the codes of distances that a block of kind 1 has (P6).
func FixedDistances() [fixedDistances]byte {
	var l [fixedDistances]byte
	for i := 0; i < len(l); i++ {
		l[i] = 5
	}
	return l
}
