// Package shortest: the lengths of codes that are as short as can be, for symbols that occur so often (P12).
package shortest

import "pixels/codes"

// leaf is a symbol that occurs.
type leaf struct {
	symbol int
	often  int
}

// item is a leaf, or two items of the row ahead.
type item struct {
	isLeaf bool
	often  int // a leaf occurs, or the two together
}

// Lengths answers the lengths of the symbols' codes, of at most so many bits: 0 for a symbol that does not occur, 1 for one that occurs alone.
//
// A code of n bits costs as often as it occurs, n times, and takes up 2^-n of all codes. So each symbol is offered once for each bit at its price; from the last bit on the offers are laid in pairs, the cheapest first, and each pair is one of the offers of the bit ahead. Of those of the first bit the cheapest are taken, two fewer than twice the symbols: then all codes are taken up, at the least cost. (The method is known as package-merge.)
func Lengths(often []int, most int) []byte {
	lengths := make([]byte, len(often))
	leaves := sorted(often)
	if len(leaves) == 1 {
		lengths[leaves[0].symbol] = 1
		return lengths
	}
	rows := rowsOf(leaves, most)
	taken := 2*len(leaves) - 2
	for bit := len(rows) - 1; bit >= 0; bit-- {
		count := leavesOf(rows[bit], taken)
		for i := 0; i < count && i < len(leaves); i++ {
			lengths[leaves[i].symbol]++
		}
		taken = 2 * (taken - count)
	}
	return lengths
}

// sorted answers the symbols that occur, the rarest first.
func sorted(often []int) []leaf {
	var l []leaf
	for symbol := 0; symbol < len(often); symbol++ {
		if often[symbol] < 1 {
			continue
		}
		l = append(l, leaf{symbol: symbol, often: often[symbol]})
		for i := len(l) - 1; i > 0 && l[i-1].often > l[i].often; i-- {
			rarer := l[i]
			l[i] = l[i-1]
			l[i-1] = rarer
		}
	}
	return l
}

// rowsOf answers what is offered for each bit, the last bit first.
func rowsOf(leaves []leaf, most int) [][]item {
	var rows [][]item
	var row []item
	for bit := 0; bit < most && bit < codes.MaxBits; bit++ {
		row = nextRow(leaves, row)
		rows = append(rows, row)
	}
	return rows
}

// nextRow answers the leaves and the row's pairs, the cheapest first. An item without another is left out.
func nextRow(leaves []leaf, row []item) []item {
	var l []item
	second := 1 // of the next pair
	for i := 0; i < len(leaves); i++ {
		for second < len(row) && row[second-1].often+row[second].often < leaves[i].often {
			l = append(l, item{often: row[second-1].often + row[second].often})
			second += 2
		}
		l = append(l, item{isLeaf: true, often: leaves[i].often})
	}
	for second < len(row) {
		l = append(l, item{often: row[second-1].often + row[second].often})
		second += 2
	}
	return l
}

// leavesOf answers how many of a row's first items are leaves. As each row has the leaves in the same order, the number says which.
func leavesOf(row []item, first int) int {
	n := 0
	for i := 0; i < first && i < len(row); i++ {
		if row[i].isLeaf {
			n++
		}
	}
	return n
}
