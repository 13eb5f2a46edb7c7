package deflate

import (
	"pixels/codes"
	"pixels/copies"
	"pixels/shortest"
	"pixels/tokens"
)

// counts is how often each symbol occurs in a block.
type counts struct {
	literals  [codes.MaxLiterals]int
	distances [codes.MaxDistances]int
}

// step is a short code, and the number that the bits behind it tell.
type step struct {
	short int
	rest  int
}

// countsOf: the end of the block is there once.
func countsOf(l []tokens.Token) counts {
	var c counts
	c.literals[codes.EndOfBlock] = 1
	for i := 0; i < len(l); i++ {
		if l[i].Length == 0 {
			c.literals[l[i].Byte]++
			continue
		}
		length := copies.LengthSymbol(l[i].Length)
		if length >= 0 && length < codes.MaxLiterals {
			c.literals[length]++
		}
		distance := copies.DistanceSymbol(l[i].Distance)
		if distance >= 0 && distance < codes.MaxDistances {
			c.distances[distance]++
		}
	}
	return c
}

// writeLengths tells the lengths of a block's codes.
func (x *writer) writeLengths(literals, distances []byte) {
	a := told(literals, codes.MinLiterals)
	b := told(distances, 1)
	var row []byte
	row = append(row, literals[:a]...)
	row = append(row, distances[:b]...)
	steps := stepsOf(row)
	short := shortLengths(steps)
	x.bits.number(uint32(a-codes.MinLiterals), 5)
	x.bits.number(uint32(b-1), 5)
	x.writeShorts(short)
	x.writeSteps(steps, short)
}

// told answers how many of the lengths must be told, at least so many: behind them there are no codes.
func told(l []byte, least int) int {
	n := len(l)
	for n > least && n > 0 && l[n-1] == 0 {
		n--
	}
	return n
}

// stepsOf answers the steps that tell a row of lengths.
func stepsOf(row []byte) []step {
	var steps []step
	for at := 0; at < len(row); {
		run := runAt(row, at)
		short := shortFor(row, at, run)
		least, bits := codes.Repeat(short)
		times := min(run, least+1<<uint(bits)-1)
		steps = append(steps, step{short: short, rest: times - least})
		at += max(times, 1)
	}
	return steps
}

// runAt answers how often the length at a place comes there, one behind the other.
func runAt(row []byte, at int) int {
	n := 0
	for at >= 0 && at+n < len(row) && row[at+n] == row[at] {
		n++
	}
	return n
}

// shortFor answers the short code that tells the most of a run.
func shortFor(row []byte, at, run int) int {
	if at < 0 || at >= len(row) {
		return 0
	}
	switch {
	case row[at] == 0 && fits(codes.ManyNoughts, run):
		return codes.ManyNoughts
	case row[at] == 0 && fits(codes.Noughts, run):
		return codes.Noughts
	case at > 0 && row[at-1] == row[at] && fits(codes.Again, run):
		return codes.Again
	}
	return int(row[at])
}

// fits tells whether a run is as long as the short code needs it.
func fits(short, run int) bool {
	least, _ := codes.Repeat(short)
	return run >= least
}

// shortLengths answers the lengths of the short codes. They are full, as they must be: a row of lengths always has two that differ.
func shortLengths(steps []step) []byte {
	var often [codes.Shorts]int
	for i := 0; i < len(steps); i++ {
		short := steps[i].short
		if short >= 0 && short < codes.Shorts {
			often[short]++
		}
	}
	return shortest.Lengths(often[:], codes.MaxShortBits)
}

// writeShorts tells the lengths of the short codes, in the order that they have.
func (x *writer) writeShorts(short []byte) {
	var row [codes.Shorts]byte
	for i := 0; i < len(row); i++ {
		at := codes.ShortAt(i)
		if at >= 0 && at < len(short) {
			row[i] = short[at]
		}
	}
	n := told(row[:], codes.MinShorts)
	x.bits.number(uint32(n-codes.MinShorts), 4)
	for i := 0; i < n && i < len(row); i++ {
		x.bits.number(uint32(row[i]), 3)
	}
}

func (x *writer) writeSteps(steps []step, short []byte) {
	b := codes.BookOf(short)
	for i := 0; i < len(steps); i++ {
		_, bits := codes.Repeat(steps[i].short)
		x.writeSymbol(steps[i].short, &b)
		x.bits.number(uint32(steps[i].rest), uint(bits))
	}
}
