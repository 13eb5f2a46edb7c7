// Package filters: what a row's filter takes for a byte (P7).
package filters

const (
	none = iota
	left
	up
	half
	nearest
)

// Last is the greatest number of a filter.
const Last = nearest

// Guess answers what the filter takes for the byte that has these to its left, above it and to the left above it.
func Guess(filter, l, u, corner byte) byte {
	switch filter {
	case left:
		return l
	case up:
		return u
	case half:
		return byte((int(l) + int(u)) / 2)
	case nearest:
		return nearestOf(l, u, corner)
	}
	return 0
}

// nearestOf: the distances to l + u - corner come down to differences of two.
func nearestOf(l, u, corner byte) byte {
	toLeft := distance(int(u), int(corner))
	toUp := distance(int(l), int(corner))
	toCorner := distance(int(l)+int(u), 2*int(corner))
	if toLeft <= toUp && toLeft <= toCorner {
		return l
	}
	if toUp <= toCorner {
		return u
	}
	return corner
}

func distance(a, b int) int {
	if a < b {
		return b - a
	}
	return a - b
}
