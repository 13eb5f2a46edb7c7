// Package tokens: what a block of kind 1 or 2 is made of: bytes, and copies of bytes ahead (P12).
package tokens

import "pixels/copies"

// Token is a copy, or a byte where Length is 0.
type Token struct {
	Byte     byte
	Length   int
	Distance int
}

// Search says how copies are looked for.
type Search struct {
	Window int // the greatest distance
	Places int // how many places count
}

// Of answers the tokens of the block that begins at a place of data and ends where data ends. What stands ahead of the block may be copied too.
func Of(data []byte, from int, s Search) []Token {
	var l []Token
	for at := max(from, 0); at < len(data); {
		t := next(data, at, s)
		l = append(l, t)
		at += max(t.Length, 1)
	}
	return l
}

// next looks from the nearest place on, so that of equals the nearest stays.
func next(data []byte, at int, s Search) Token {
	var best Token
	if at >= 0 && at < len(data) {
		best.Byte = data[at]
	}
	places := 0
	for distance := 1; distance <= s.Window && distance <= at && places < s.Places; distance++ {
		length := alike(data, at, distance)
		if length < copies.MinLength {
			continue
		}
		places++
		if length > best.Length {
			best = Token{Length: length, Distance: distance}
		}
	}
	return best
}

// alike answers how many bytes a copy from that far back may have. They may lead over the place itself: by then what stands there has been given.
func alike(data []byte, at, distance int) int {
	if distance < 1 || distance > at {
		return 0
	}
	n := 0
	for n < copies.MaxLength && at+n < len(data) && data[at+n-distance] == data[at+n] {
		n++
	}
	return n
}
