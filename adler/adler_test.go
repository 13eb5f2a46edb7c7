package adler

import (
	"hash/adler32"
	"math/rand"
	"testing"
)

func TestSum(t *testing.T) {
	r := rand.New(rand.NewSource(1))
	full := make([]byte, 70000)
	for i := range full {
		full[i] = 255
	}
	noise := make([]byte, 70000)
	for i := range noise {
		noise[i] = byte(r.Intn(256))
	}
	for _, data := range [][]byte{full, noise, make([]byte, 70000)} {
		sum := Start
		for i, b := range data {
			if i%997 == 0 || i < 300 {
				if want := adler32.Checksum(data[:i]); sum != want {
					t.Fatalf("P6: the sum of %d bytes: %d, want %d", i, sum, want)
				}
			}
			sum = Add(sum, b)
		}
	}
}
