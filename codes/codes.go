// Package codes: sets of codes that are told by their lengths, and the reading of one (P6).
package codes

const (
	// MaxBits is the greatest length of a code.
	MaxBits = 15
	// MaxSymbols is the greatest number of symbols that a set may have.
	MaxSymbols = 288
	// EndOfBlock is the symbol that ends a block of kind 1 or 2.
	EndOfBlock = 256
)

// What Step answers where there is no symbol.
const (
	More = -1 // the code has more bits
	None = -2 // no code begins so
)

// Set has the symbols in the order of their codes: as each code is the next number, how many there are of each length says all codes.
type Set struct {
	count   [MaxBits + 1]int
	symbols [MaxSymbols]int
	total   int
	longest int
}

// Path is where the bits of a code have led so far.
type Path struct {
	bits   int
	offset int // from the first code of that length
	ahead  int // how many codes are shorter
}

// Make answers the set whose symbols have codes of these lengths; 0: no code. A length above MaxBits is none.
func Make(lengths []byte) Set {
	var s Set
	for i := 0; i < len(lengths) && i < MaxSymbols; i++ {
		bits := int(lengths[i])
		if bits > 0 && bits <= MaxBits {
			s.count[bits]++
			s.total++
			s.longest = max(s.longest, bits)
		}
	}
	s.sort(lengths)
	return s
}

// sort lays each symbol at the next place of its length.
func (s *Set) sort(lengths []byte) {
	var next [MaxBits + 1]int
	for bits := 1; bits < MaxBits; bits++ {
		next[bits+1] = next[bits] + s.count[bits]
	}
	for i := 0; i < len(lengths) && i < MaxSymbols; i++ {
		bits := int(lengths[i])
		if bits > 0 && bits <= MaxBits && next[bits] < MaxSymbols {
			s.symbols[next[bits]] = i
			next[bits]++
		}
	}
}

// Full tells whether all bits, of whatever values, lead to a code, and there are not more codes than bits can tell apart.
func (s *Set) Full() bool {
	free := 1
	for bits := 1; bits <= MaxBits; bits++ {
		free = 2*free - s.count[bits]
		if free < 0 {
			return false
		}
	}
	return free == 0
}

// Lone tells whether there is one code alone, of one bit.
func (s *Set) Lone() bool {
	return s.total == 1 && s.count[1] == 1
}

// Empty tells whether there is no code.
func (s *Set) Empty() bool {
	return s.total == 0
}

// Step leads the path a bit on and answers the symbol whose code ends there, More or None. The set is full, lone or empty: in another one bits that lead nowhere may be told too late.
func (s *Set) Step(p *Path, bit int) int {
	p.bits++
	if p.bits < 1 || p.bits > s.longest || p.bits > MaxBits {
		return None
	}
	p.offset = 2*p.offset + bit
	count := s.count[p.bits]
	if p.offset < count {
		return s.symbol(p.ahead + p.offset)
	}
	p.offset -= count
	p.ahead += count
	if p.bits == s.longest {
		return None
	}
	return More
}

func (s *Set) symbol(i int) int {
	if i < 0 || i >= s.total || i >= MaxSymbols {
		return None
	}
	return s.symbols[i]
}
