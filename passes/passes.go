// Package passes: which pixels a pass has, and what each of them fills when it is shown (P7, P8).
package passes

// laced is the number of passes of an interlaced picture.
const laced = 7

// grid: of each pass the first column and row, the steps to the next, and the block's columns and rows.
var grid = [laced][6]int{
	{0, 0, 8, 8, 8, 8},
	{4, 0, 8, 8, 4, 8},
	{0, 4, 4, 8, 4, 4},
	{2, 0, 4, 4, 2, 4},
	{0, 2, 2, 4, 2, 2},
	{1, 0, 2, 2, 1, 2},
	{0, 1, 1, 2, 1, 1},
}

// Axis is a pass seen along the columns or along the rows: of all places there those with a pixel are first and each step-th behind it. The step is never 0.
type Axis struct {
	first, step, block int
}

// Pass is one pass: its columns and its rows.
type Pass struct {
	Columns, Rows Axis
}

// Count answers how many passes a picture has.
func Count(lace int) int {
	if lace == 1 {
		return laced
	}
	return 1
}

// Of answers pass k of a picture. A plain picture's only pass has every pixel.
func Of(lace, k int) Pass {
	if lace != 1 || k < 0 || k >= laced {
		return Pass{Axis{0, 1, 1}, Axis{0, 1, 1}}
	}
	g := grid[k]
	return Pass{Axis{g[0], g[2], g[4]}, Axis{g[1], g[3], g[5]}}
}

// Within answers how many of the places 0 to size - 1 the pass has.
func (a Axis) Within(size int) int {
	if a.step < 1 || size <= a.first {
		return 0
	}
	return (size-a.first-1)/a.step + 1
}

// Place answers where the pass has its i-th pixel.
func (a Axis) Place(i int) int {
	return a.first + i*a.step
}

// Origin answers where the pixel stands whose block has this place, and whether there is one.
func (a Axis) Origin(place int) (int, bool) {
	if a.step < 1 || place < a.first {
		return 0, false
	}
	behind := (place - a.first) % a.step
	return place - behind, behind < a.block
}
