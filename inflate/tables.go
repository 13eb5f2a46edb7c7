package inflate

import (
	"pixels/api"
	"pixels/codes"
)

// tables is what a block of kind 2 has told of its codes.
type tables struct {
	literals  int // how many there are
	distances int
	shorts    int

	short        codes.Set // the codes of lengths
	shortLengths [codes.Shorts]byte
	lengths      [codes.MaxLiterals + codes.MaxDistances]byte // of literals and distances in one row
	told         int                                          // how many of the lengths at hand were told
	repeat       int                                          // the code that says how often
}

// takeCounts: how many codes there are of each sort.
func (x *Stream) takeCounts(n uint32) api.Errno {
	x.tables = tables{literals: int(n&31) + codes.MinLiterals, distances: int(n>>5&31) + 1, shorts: int(n>>10) + codes.MinShorts}
	if x.tables.literals > codes.MaxLiterals || x.tables.distances > codes.MaxDistances {
		return api.ErrCodes
	}
	x.enter(inShortLength, 3)
	return api.OK
}

func (x *Stream) takeShortLength(n uint32) api.Errno {
	t := &x.tables
	short := codes.ShortAt(t.told)
	if short >= 0 && short < codes.Shorts {
		t.shortLengths[short] = byte(n)
	}
	t.told++
	if t.told < t.shorts {
		x.enter(inShortLength, 3)
		return api.OK
	}
	t.short = codes.Make(t.shortLengths[:])
	if !t.short.Full() {
		return api.ErrCodes
	}
	t.told = 0
	x.enter(inCodeLength, 0)
	return api.OK
}

// takeCodeLength: a length, or a code behind which bits say how often one comes again.
func (x *Stream) takeCodeLength(symbol int) api.Errno {
	x.tables.repeat = symbol
	switch {
	case symbol == codes.More:
		return api.OK
	case symbol == codes.None:
		return api.ErrSymbol
	case symbol == codes.Again && x.tables.told == 0:
		return api.ErrCodes
	}
	_, bits := codes.Repeat(symbol)
	if bits > 0 {
		x.enter(inRepeat, uint(bits))
		return api.OK
	}
	return x.layLengths(byte(symbol), 1)
}

func (x *Stream) takeRepeat(n uint32) api.Errno {
	t := &x.tables
	least, _ := codes.Repeat(t.repeat)
	times := least + int(n)
	if t.repeat != codes.Again {
		return x.layLengths(0, times)
	}
	if t.told < 1 || t.told > len(t.lengths) {
		return api.ErrCodes
	}
	length := t.lengths[t.told-1]
	return x.layLengths(length, times)
}

// layLengths lays a length some times and goes on behind the last one that there must be.
func (x *Stream) layLengths(length byte, times int) api.Errno {
	t := &x.tables
	all := t.literals + t.distances
	if t.told+times > all {
		return api.ErrCodes
	}
	for i := 0; i < times && t.told < len(t.lengths); i++ {
		t.lengths[t.told] = length
		t.told++
	}
	if t.told < all {
		x.enter(inCodeLength, 0)
		return api.OK
	}
	return x.makeCodes()
}

// makeCodes: literals need an end of the block; distances need not be there.
func (x *Stream) makeCodes() api.Errno {
	t := &x.tables
	if t.literals < 0 || t.literals > t.told || t.told > len(t.lengths) {
		return api.ErrCodes
	}
	x.literals = codes.Make(t.lengths[:t.literals])
	x.distances = codes.Make(t.lengths[t.literals:t.told])
	if !x.literals.Full() && !x.literals.Lone() {
		return api.ErrCodes
	}
	if !x.distances.Full() && !x.distances.Lone() && !x.distances.Empty() {
		return api.ErrCodes
	}
	if t.lengths[codes.EndOfBlock] == 0 {
		return api.ErrCodes
	}
	x.enter(inSymbol, 0)
	return api.OK
}
