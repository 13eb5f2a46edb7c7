package copies

import "testing"

// Each length and distance is told by just one symbol (258 by two), and the next symbol goes on where one ends.
func TestTables(t *testing.T) {
	next := 3
	for s := 257; s < 285; s++ {
		least, bits := Length(s)
		if least != next {
			t.Errorf("P6: symbol %d begins with %d, want %d", s, least, next)
		}
		if want := max(0, (s-261)/4); bits != want {
			t.Errorf("P6: symbol %d has %d bits, want %d", s, bits, want)
		}
		next += 1 << bits
	}
	if least, bits := Length(285); next != 259 || least != 258 || bits != 0 {
		t.Errorf("P6: symbol 285: %d, %d bits", least, bits)
	}
	next = 1
	for s := range 30 {
		least, bits := Distance(s)
		if least != next {
			t.Errorf("P6: distance %d begins with %d, want %d", s, least, next)
		}
		if want := max(0, s/2-1); bits != want {
			t.Errorf("P6: distance %d has %d bits, want %d", s, bits, want)
		}
		next += 1 << bits
	}
	if next != 32769 {
		t.Errorf("P6: distances end at %d", next-1)
	}
}

func TestNone(t *testing.T) {
	for _, s := range []int{-1 << 60, -1, 0, 256, 286, 287, 1 << 60} {
		if least, bits := Length(s); least != 0 || bits != 0 {
			t.Errorf("P6: length %d: %d, %d", s, least, bits)
		}
	}
	for _, s := range []int{-1 << 60, -1, 30, 31, 1 << 60} {
		if least, bits := Distance(s); least != 0 || bits != 0 {
			t.Errorf("P6: distance %d: %d, %d", s, least, bits)
		}
	}
}

// Each length and distance has a symbol that says it with the bits that it has.
func TestSymbols(t *testing.T) {
	for n := 3; n <= 258; n++ {
		s := LengthSymbol(n)
		least, bits := Length(s)
		if s < 257 || s > 285 || n < least || n-least >= 1<<bits {
			t.Errorf("P6: length %d: symbol %d, from %d on with %d bits", n, s, least, bits)
		}
	}
	for n, want := range map[int]int{3: 257, 10: 264, 11: 265, 12: 265, 13: 266, 226: 283, 227: 284, 257: 284, 258: 285} {
		if got := LengthSymbol(n); got != want {
			t.Errorf("P6: length %d: symbol %d, want %d", n, got, want)
		}
	}
	for n := 1; n <= 32768; n++ {
		s := DistanceSymbol(n)
		least, bits := Distance(s)
		if s < 0 || s > 29 || n < least || n-least >= 1<<bits {
			t.Fatalf("P6: distance %d: symbol %d, from %d on with %d bits", n, s, least, bits)
		}
	}
	for n, want := range map[int]int{1: 0, 4: 3, 5: 4, 6: 4, 7: 5, 256: 15, 257: 16, 24576: 28, 24577: 29, 32768: 29} {
		if got := DistanceSymbol(n); got != want {
			t.Errorf("P6: distance %d: symbol %d, want %d", n, got, want)
		}
	}
}

func TestNoSymbol(t *testing.T) {
	for _, n := range []int{-1 << 60, -1, 0, 1, 2, 259, 1 << 60} {
		if got := LengthSymbol(n); got != 0 {
			t.Errorf("P6: length %d: symbol %d", n, got)
		}
	}
	for _, n := range []int{-1 << 60, -1, 0, 32769, 1 << 60} {
		if got := DistanceSymbol(n); got != -1 {
			t.Errorf("P6: distance %d: symbol %d", n, got)
		}
	}
}
