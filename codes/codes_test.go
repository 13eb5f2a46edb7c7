package codes

import (
	"math/rand"
	"testing"
)

// walk: the symbol that a text of bits leads to, and how many of the bits it took.
func walk(s *Set, bits string) (int, int) {
	var p Path
	for i, c := range bits {
		if n := s.Step(&p, int(c-'0')); n != More {
			return n, i + 1
		}
	}
	return More, len(bits)
}

func TestSymbols(t *testing.T) {
	s := Make([]byte{3, 0, 1, 3, 2})
	for bits, want := range map[string]int{"0": 2, "10": 4, "110": 0, "111": 3, "1": More, "11": More, "": More} {
		if got, n := walk(&s, bits); got != want || n != len(bits) {
			t.Errorf("P6: %q: %d behind %d bits, want %d", bits, got, n, want)
		}
	}
	if !s.Full() || s.Lone() || s.Empty() {
		t.Error("P6: full codes are not")
	}
}

func TestLoneAndEmpty(t *testing.T) {
	lone := Make([]byte{0, 0, 1})
	if lone.Full() || !lone.Lone() || lone.Empty() {
		t.Error("P6: one code of one bit")
	}
	for bits, want := range map[string]int{"0": 2, "1": None} {
		if got, _ := walk(&lone, bits); got != want {
			t.Errorf("P6: %q of a lone code: %d, want %d", bits, got, want)
		}
	}
	two := Make([]byte{0, 2})
	if two.Full() || two.Lone() || two.Empty() {
		t.Error("P6: one code of two bits")
	}
	for _, l := range [][]byte{nil, {}, {0}, {0, 0, 0, 0}} {
		empty := Make(l)
		if empty.Full() || empty.Lone() || !empty.Empty() {
			t.Errorf("P6: no code: %v", l)
		}
		for _, bits := range []string{"0", "1"} {
			if got, n := walk(&empty, bits); got != None || n != 1 {
				t.Errorf("P6: %q where there is no code: %d behind %d bits", bits, got, n)
			}
		}
	}
}

// Full: random lengths against the sum of their shares of 2^15.
func TestFull(t *testing.T) {
	r := rand.New(rand.NewSource(1))
	seen := 0
	for range 20000 {
		l := make([]byte, 1+r.Intn(8))
		share := 0
		for i := range l {
			l[i] = byte(r.Intn(5))
			if r.Intn(50) == 0 {
				l[i] = byte(r.Intn(16))
			}
			if l[i] > 0 {
				share += 1 << (15 - l[i])
			}
		}
		s := Make(l)
		if s.Full() != (share == 1<<15) {
			t.Fatalf("P6: %v: full: %v", l, s.Full())
		}
		if s.Full() {
			seen++
		}
	}
	if seen < 100 {
		t.Errorf("full codes came up %d times only", seen)
	}
	long := make([]byte, 16)
	for i := range long {
		long[i] = byte(min(15, i+1))
	}
	s := Make(long)
	if got, n := walk(&s, "111111111111111"); !s.Full() || got != 15 || n != 15 {
		t.Errorf("P6: codes of up to 15 bits: %d behind %d bits", got, n)
	}
	for _, l := range [][]byte{{1, 1, 15}, {1, 1, 1}, {2, 2, 2, 2, 2}} {
		s := Make(l)
		if s.Full() {
			t.Errorf("P6: too many codes: %v", l)
		}
	}
}

// Lists that are none make no panic.
func TestWrongLengths(t *testing.T) {
	l := make([]byte, 1000)
	for i := range l {
		l[i] = byte(i)
	}
	for n := range l {
		s := Make(l[:n])
		var p Path
		for range 40 {
			s.Step(&p, 1)
		}
		s.Step(&Path{bits: -9}, 0)
		s.Step(&Path{ahead: 900}, 0)
		s.Step(&Path{ahead: -900}, 0)
	}
}
