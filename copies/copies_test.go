package copies

import "testing"

// Each length and distance is told by just one symbol (258 by two), and the next symbol goes on where one ends.
func TestTables(t *testing.T) {
	next := 3
	for s := 257; s < 285; s++ {
		least, bits := Length(s)
		if least != next {
			t.Errorf("P6: symbol %d begins with %d, want %d", s, least, next)
		}
		if want := max(0, (s-261)/4); bits != want {
			t.Errorf("P6: symbol %d has %d bits, want %d", s, bits, want)
		}
		next += 1 << bits
	}
	if least, bits := Length(285); next != 259 || least != 258 || bits != 0 {
		t.Errorf("P6: symbol 285: %d, %d bits", least, bits)
	}
	next = 1
	for s := range 30 {
		least, bits := Distance(s)
		if least != next {
			t.Errorf("P6: distance %d begins with %d, want %d", s, least, next)
		}
		if want := max(0, s/2-1); bits != want {
			t.Errorf("P6: distance %d has %d bits, want %d", s, bits, want)
		}
		next += 1 << bits
	}
	if next != 32769 {
		t.Errorf("P6: distances end at %d", next-1)
	}
}

func TestNone(t *testing.T) {
	for _, s := range []int{-1 << 60, -1, 0, 256, 286, 287, 1 << 60} {
		if least, bits := Length(s); least != 0 || bits != 0 {
			t.Errorf("P6: length %d: %d, %d", s, least, bits)
		}
	}
	for _, s := range []int{-1 << 60, -1, 30, 31, 1 << 60} {
		if least, bits := Distance(s); least != 0 || bits != 0 {
			t.Errorf("P6: distance %d: %d, %d", s, least, bits)
		}
	}
}
