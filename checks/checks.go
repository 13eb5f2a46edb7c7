// Package checks: which images and choices are refused (P9).
package checks

import (
	"pixels/api"
	"pixels/colours"
	"pixels/filters"
	"pixels/head"
)

const (
	bytes   = 256 // how many values a byte may have
	kinds   = 3   // of blocks
	windows = 8
)

// Image answers why the image is refused, or OK. The order of the tests is the promise.
func Image(im api.Image) api.Errno {
	switch {
	case !isSide(im.W) || !isSide(im.H):
		return api.ErrSide
	case !head.Fits(im.Kind, im.Depth):
		return api.ErrKind
	case !isPalette(im):
		return api.ErrPalette
	case !isClear(im):
		return api.ErrClear
	case !isPix(im):
		return api.ErrPix
	}
	return api.OK
}

// Choice answers why the choice is refused, or OK.
func Choice(ch api.Choice) api.Errno {
	switch {
	case !below(ch.Lace, 2):
		return api.ErrChoice
	case !isList(ch.Filters) || !allBelow(ch.Filters, filters.Last+1):
		return api.ErrChoice
	case !isList(ch.Kinds) || !allBelow(ch.Kinds, kinds):
		return api.ErrChoice
	case !isList(ch.Cuts) || !isCuts(ch.Cuts):
		return api.ErrChoice
	case ch.Part < 1 || !below(ch.Window, windows) || !below(ch.Search, api.MaxSearch+1):
		return api.ErrChoice
	}
	return api.OK
}

func isSide(n int) bool {
	return n >= 1 && n <= api.MaxSide
}

func isPalette(im api.Image) bool {
	size := len(im.Pal)
	if size > colours.PaletteSize || size%3 != 0 || !allBelow(im.Pal, bytes) {
		return false
	}
	switch im.Kind {
	case api.Grey, api.GreyAlpha:
		return size == 0
	case api.Palette:
		return size > 0 && size/3 <= levels(im)
	}
	return true
}

func isClear(im api.Image) bool {
	size := len(im.Clear)
	if size == 0 {
		return true
	}
	switch im.Kind {
	case api.Grey, api.Rgb:
		return size == head.Samples(im.Kind) && allBelow(im.Clear, levels(im))
	case api.Palette:
		return size <= len(im.Pal)/3 && allBelow(im.Clear, bytes)
	}
	return false
}

func isPix(im api.Image) bool {
	end := levels(im)
	if im.Kind == api.Palette {
		end = len(im.Pal) / 3
	}
	return len(im.Pix) == im.W*im.H*head.Samples(im.Kind) && allBelow(im.Pix, end)
}

// levels answers how many values a sample may have.
func levels(im api.Image) int {
	h := head.Head{Depth: im.Depth}
	return int(h.Levels())
}

// isList tells whether a choice's list has as many members as it may have.
func isList(l []int) bool {
	return len(l) >= 1 && len(l) <= api.MaxList
}

// isCuts: with cuts of 0 alone the stream would never be over.
func isCuts(l []int) bool {
	some := false
	for i := 0; i < len(l); i++ {
		if l[i] < 0 {
			return false
		}
		if l[i] > 0 {
			some = true
		}
	}
	return some
}

func below(n, end int) bool {
	return n >= 0 && n < end
}

func allBelow(l []int, end int) bool {
	for i := 0; i < len(l); i++ {
		if !below(l[i], end) {
			return false
		}
	}
	return true
}
