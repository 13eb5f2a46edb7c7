// Package adler: the sum of a stream's bytes (P6).
package adler

// modulus is the greatest prime below 65536.
const modulus = 65521

// Start is the sum of no bytes.
const Start uint32 = 1

// Add answers the sum behind one more byte.
func Add(sum uint32, b byte) uint32 {
	low := (sum&0xFFFF + uint32(b)) % modulus
	high := (sum>>16 + low) % modulus
	return high<<16 | low
}
