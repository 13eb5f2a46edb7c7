// Package copies: the published tables of a copy's length and distance (P6).
package copies

const (
	// FirstLength is the symbol of the least length.
	FirstLength = 257
	// Lengths and Distances are how many symbols there are of each.
	Lengths   = 29
	Distances = 30
	// MinLength and MaxLength are the least and the greatest length.
	MinLength = 3
	MaxLength = 258

	maxDistance = 32768
)

var lengths = [Lengths]int{
	3, 4, 5, 6, 7, 8, 9, 10, 11, 13, 15, 17, 19, 23, 27,
	31, 35, 43, 51, 59, 67, 83, 99, 115, 131, 163, 195, 227, 258,
}

var lengthBits = [Lengths]int{
	0, 0, 0, 0, 0, 0, 0, 0, 1, 1, 1, 1, 2, 2, 2,
	2, 3, 3, 3, 3, 4, 4, 4, 4, 5, 5, 5, 5, 0,
}

var distances = [Distances]int{
	1, 2, 3, 4, 5, 7, 9, 13, 17, 25, 33, 49, 65, 97, 129, 193,
	257, 385, 513, 769, 1025, 1537, 2049, 3073, 4097, 6145, 8193, 12289, 16385, 24577,
}

// Length answers the least length that a symbol says and how many bits tell more; 0 and 0, if it says none.
func Length(symbol int) (int, int) {
	i := symbol - FirstLength
	if i < 0 || i >= Lengths {
		return 0, 0
	}
	return lengths[i], lengthBits[i]
}

// Distance answers the least distance that a symbol says and how many bits tell more; 0 and 0, if it says none.
func Distance(symbol int) (int, int) {
	if symbol < 0 || symbol >= Distances {
		return 0, 0
	}
	return distances[symbol], max(0, symbol/2-1)
}

// LengthSymbol answers the symbol that says a length; 0, if none does. Of the two that say 258 it is the one without further bits.
func LengthSymbol(length int) int {
	if length < MinLength || length > MaxLength {
		return 0
	}
	i := 0
	for i+1 < Lengths && lengths[i+1] <= length {
		i++
	}
	return FirstLength + i
}

// DistanceSymbol answers the symbol that says a distance; -1, if none does.
func DistanceSymbol(distance int) int {
	if distance < 1 || distance > maxDistance {
		return -1
	}
	i := 0
	for i+1 < Distances && distances[i+1] <= distance {
		i++
	}
	return i
}
