package file

import (
	"math"
	"slices"
	"testing"

	"pixels/api"
)

// chunksOf: the types and lengths of a file's chunks.
func chunksOf(s string) (types []string, sizes []int) {
	for i := 8; i+12 <= len(s); {
		n := int(s[i])<<24 | int(s[i+1])<<16 | int(s[i+2])<<8 | int(s[i+3])
		types = append(types, s[i+4:i+8])
		sizes = append(sizes, n)
		i += 12 + n
	}
	return types, sizes
}

// The smallest stream has 13 bytes.
func TestCuts(t *testing.T) {
	im := api.Image{W: 1, H: 1, Depth: 8, Pix: []int{7}}
	for _, c := range []struct{ cuts, want []int }{
		{[]int{99}, []int{13}}, {[]int{13}, []int{13}}, {[]int{12}, []int{12, 1}}, {[]int{14}, []int{13}},
		{[]int{6, 7}, []int{6, 7}}, {[]int{6, 7, 0}, []int{6, 7}}, {[]int{0, 13}, []int{0, 13}}, {[]int{13, 0}, []int{13}},
		{[]int{0, 5, 0, 3}, []int{0, 5, 0, 3, 0, 5}}, {[]int{4, 0}, []int{4, 0, 4, 0, 4, 0, 1}}, {[]int{math.MaxInt}, []int{13}},
		{[]int{1, math.MaxInt}, []int{1, 12}},
	} {
		types, sizes := chunksOf(Write(im, api.Choice{Filters: []int{0}, Kinds: []int{0}, Part: 9, Cuts: c.cuts}))
		if types[0] != "IHDR" || types[len(types)-1] != "IEND" || !slices.Equal(sizes[1:len(sizes)-1], c.want) {
			t.Errorf("P11: cuts %v: %v, %v", c.cuts, types, sizes)
		}
	}
}

func TestChunks(t *testing.T) {
	ch := api.Choice{Filters: []int{0}, Kinds: []int{0}, Part: 9, Cuts: []int{99}}
	for _, c := range []struct {
		im    api.Image
		types []string
		sizes []int
	}{
		{api.Image{W: 1, H: 1, Depth: 16, Clear: []int{1}, Pix: []int{7}}, []string{"IHDR", "tRNS", "IDAT", "IEND"}, []int{13, 2, 14, 0}},
		{api.Image{W: 1, H: 1, Kind: 2, Depth: 8, Pal: make([]int, 6), Clear: []int{1, 2, 3}, Pix: []int{7, 8, 9}}, []string{"IHDR", "PLTE", "tRNS", "IDAT", "IEND"}, []int{13, 6, 6, 15, 0}},
		{api.Image{W: 1, H: 1, Kind: 3, Depth: 8, Pal: make([]int, 9), Clear: []int{1, 2}, Pix: []int{2}}, []string{"IHDR", "PLTE", "tRNS", "IDAT", "IEND"}, []int{13, 9, 2, 13, 0}},
	} {
		types, sizes := chunksOf(Write(c.im, ch))
		if !slices.Equal(types, c.types) || !slices.Equal(sizes, c.sizes) {
			t.Errorf("P10: kind %d: %v, %v", c.im.Kind, types, sizes)
		}
	}
}

// Choices that are none end all the same.
func TestNone(t *testing.T) {
	for _, cuts := range [][]int{nil, {0}, {0, 0, 0}, {-1}, {math.MinInt, 0}} {
		Write(api.Image{W: 1, H: 1, Depth: 8, Pix: []int{7}}, api.Choice{Cuts: cuts})
		Write(api.Image{}, api.Choice{Cuts: cuts})
	}
}
