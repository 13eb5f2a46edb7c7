// Package picture: the lists of what is known and of what is shown ahead of time (P8).
package picture

import (
	"pixels/colours"
	"pixels/head"
	"pixels/passes"
	"pixels/rows"
)

// Known answers, row by row, 1 for each pixel that is known, else 0.
func Known(h head.Head, r *rows.Reader) []int {
	l := make([]int, size(h))
	for i := 0; i < len(l) && h.W > 0; i++ {
		if r.Known(i%h.W, i/h.W) {
			l[i] = 1
		}
	}
	return l
}

// Pix answers, row by row, the colour of each pixel that is known, else four times 0.
func Pix(h head.Head, r *rows.Reader, t *colours.Table) []int {
	l := make([]int, 4*size(h))
	for i := 0; i < size(h) && h.W > 0; i++ {
		lay(l, i, pixel(h, r, t, i%h.W, i/h.W))
	}
	return l
}

// Show answers, row by row, the colour that is shown at each place, four times 0 where there is none.
func Show(h head.Head, r *rows.Reader, t *colours.Table) []int {
	l := make([]int, 4*size(h))
	for i := 0; i < size(h) && h.W > 0; i++ {
		lay(l, i, shown(h, r, t, i%h.W, i/h.W))
	}
	return l
}

func size(h head.Head) int {
	if h.W < 1 || h.H < 1 {
		return 0
	}
	return h.W * h.H
}

func lay(l []int, i int, colour [4]int) {
	for k := 0; k < len(colour) && 4*i+k < len(l); k++ {
		l[4*i+k] = colour[k]
	}
}

func pixel(h head.Head, r *rows.Reader, t *colours.Table, x, y int) [4]int {
	if !r.Known(x, y) {
		return [4]int{}
	}
	return t.Colour(h, r.Samples(x, y))
}

// shown looks from the latest pass on, since a later pixel lies over the earlier ones' blocks.
func shown(h head.Head, r *rows.Reader, t *colours.Table, x, y int) [4]int {
	for k := passes.Count(h.Lace) - 1; k >= 0; k-- {
		p := passes.Of(h.Lace, k)
		column, inColumns := p.Columns.Origin(x)
		row, inRows := p.Rows.Origin(y)
		if inColumns && inRows && r.Known(column, row) {
			return pixel(h, r, t, column, row)
		}
	}
	return [4]int{}
}
