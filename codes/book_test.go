package codes

import (
	"math"
	"math/rand"
	"strings"
	"testing"
)

// text: a code as its bits are read.
func text(b *Book, symbol int) string {
	code, size := b.Code(symbol)
	var s strings.Builder
	for i := int(size) - 1; i >= 0; i-- {
		s.WriteByte('0' + byte(code>>i&1))
	}
	return s.String()
}

func TestCodes(t *testing.T) {
	b := BookOf([]byte{3, 0, 1, 3, 2})
	for s, want := range []string{"110", "", "0", "111", "10", ""} {
		if got := text(&b, s); got != want {
			t.Errorf("P6: symbol %d: %q, want %q", s, got, want)
		}
	}
}

// What a book writes, a set of the same lengths reads.
func TestWrittenAndRead(t *testing.T) {
	r := rand.New(rand.NewSource(1))
	for range 300 {
		lengths := []byte{0}
		for len(lengths) < 1+r.Intn(MaxSymbols) {
			i := r.Intn(len(lengths))
			if lengths[i] < MaxBits {
				lengths[i]++
				lengths = append(lengths, lengths[i])
			}
		}
		r.Shuffle(len(lengths), func(i, k int) { lengths[i], lengths[k] = lengths[k], lengths[i] })
		b, set := BookOf(lengths), Make(lengths)
		for s, n := range lengths {
			bits := text(&b, s)
			if got, size := walk(&set, bits); n > 0 && (got != s || size != int(n) || len(bits) != int(n)) {
				t.Fatalf("P6: lengths %v, symbol %d: written %q, read as %d", lengths, s, bits, got)
			}
		}
	}
}

func TestFixed(t *testing.T) {
	literals, distances := FixedLiterals(), FixedDistances()
	b := BookOf(literals[:])
	for symbol, want := range map[int]string{
		0: "00110000", 143: "10111111", 144: "110010000", 255: "111111111", 256: "0000000", 279: "0010111", 280: "11000000", 287: "11000111",
	} {
		if got := text(&b, symbol); got != want {
			t.Errorf("P6: literal %d: %q, want %q", symbol, got, want)
		}
	}
	b = BookOf(distances[:])
	for symbol, want := range map[int]string{0: "00000", 1: "00001", 29: "11101", 30: "11110", 31: "11111", 32: ""} {
		if got := text(&b, symbol); got != want {
			t.Errorf("P6: distance %d: %q, want %q", symbol, got, want)
		}
	}
}

func TestNoCode(t *testing.T) {
	long := make([]byte, 1000)
	for i := range long {
		long[i] = byte(i)
	}
	for _, l := range [][]byte{nil, {16, 200, 255}, long} {
		b := BookOf(l)
		for _, s := range []int{math.MinInt, -1, 0, MaxSymbols, math.MaxInt} {
			if code, size := b.Code(s); code != 0 || size != 0 {
				t.Errorf("P1: symbol %d: %d of %d bits", s, code, size)
			}
		}
	}
}
