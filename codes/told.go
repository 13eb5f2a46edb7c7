package codes

// How a block of kind 2 tells the lengths of its codes: in short codes, whose own lengths stand ahead (P6).
const (
	// MinLiterals to MaxLiterals codes of literals are told, 1 to MaxDistances of distances, MinShorts to Shorts short ones.
	MinLiterals  = EndOfBlock + 1
	MaxLiterals  = 286
	MaxDistances = 30
	MinShorts    = 4
	Shorts       = 19
	// MaxShortBits is the greatest length of a short code.
	MaxShortBits = 7
)

// The short codes that say how often a length comes again; those below them are a length each.
const (
	Again       = 16
	Noughts     = 17
	ManyNoughts = 18
)

var order = [Shorts]int{16, 17, 18, 0, 8, 7, 9, 6, 10, 5, 11, 4, 12, 3, 13, 2, 14, 1, 15}

// ShortAt answers which short code is the i-th whose length is told; -1, if there is none.
func ShortAt(i int) int {
	if i < 0 || i >= Shorts {
		return -1
	}
	return order[i]
}

// Repeat answers how often, at least, a short code says that a length comes, and how many bits tell more.
func Repeat(short int) (int, int) {
	switch short {
	case Again:
		return 3, 2
	case Noughts:
		return 3, 3
	case ManyNoughts:
		return 11, 7
	}
	return 1, 0
}
