package checks

import (
	"math"
	"testing"

	"pixels/api"
)

// image: of one pixel, that is not refused.
func image(kind, depth int) api.Image {
	im := api.Image{W: 1, H: 1, Kind: kind, Depth: depth}
	im.Pix = make([]int, []int{1, 0, 3, 1, 2, 0, 4}[kind])
	if kind == api.Palette {
		im.Pal = make([]int, 3)
	}
	return im
}

func choice() api.Choice {
	return api.Choice{Filters: []int{0}, Kinds: []int{0}, Part: 1, Cuts: []int{1}}
}

// of: a list of n members, all of this value.
func of(n, value int) []int {
	l := make([]int, n)
	for i := range l {
		l[i] = value
	}
	return l
}

var depths = [7][]int{api.Grey: {1, 2, 4, 8, 16}, api.Rgb: {8, 16}, api.Palette: {1, 2, 4, 8}, api.GreyAlpha: {8, 16}, api.RgbAlpha: {8, 16}}

func forKinds(f func(kind, depth int)) {
	for kind, l := range depths {
		for _, depth := range l {
			f(kind, depth)
		}
	}
}

func expect(t *testing.T, name string, im api.Image, want api.Errno) {
	t.Helper()
	if got := Image(im); got != want {
		t.Errorf("P9: %s, kind %d, depth %d: %d, want %d", name, im.Kind, im.Depth, got, want)
	}
}

func TestSides(t *testing.T) {
	for _, n := range []int{math.MinInt, -16, -1, 0, 17, 1 << 32, 1<<32 + 1, math.MaxInt} {
		im := image(api.Grey, 8)
		im.W = n
		expect(t, "width", im, api.ErrSide)
		im = image(api.Grey, 8)
		im.H = n
		expect(t, "height", im, api.ErrSide)
	}
	for w := 1; w <= 16; w++ {
		for h := 1; h <= 16; h++ {
			im := image(api.Rgb, 8)
			im.W, im.H, im.Pix = w, h, of(3*w*h, 9)
			expect(t, "sides of 1 to 16", im, api.OK)
		}
	}
}

func TestKinds(t *testing.T) {
	fit := map[[2]int]bool{}
	forKinds(func(kind, depth int) {
		fit[[2]int{kind, depth}] = true
		expect(t, "as it may be", image(kind, depth), api.OK)
	})
	for _, kind := range []int{math.MinInt, -1, 0, 1, 2, 3, 4, 5, 6, 7, 256, 1 << 32, math.MaxInt} {
		for _, depth := range []int{math.MinInt, -8, 0, 1, 2, 3, 4, 5, 7, 8, 9, 15, 16, 17, 32, 264, 1<<32 + 8, math.MaxInt} {
			if !fit[[2]int{kind, depth}] {
				expect(t, "as it may not be", api.Image{W: 1, H: 1, Kind: kind, Depth: depth}, api.ErrKind)
			}
		}
	}
}

func TestPalettes(t *testing.T) {
	forKinds(func(kind, depth int) {
		most := 256
		switch kind {
		case api.Palette:
			most = 1 << depth
		case api.Grey, api.GreyAlpha:
			most = 0
		}
		for n := 0; n <= 800; n++ {
			im := image(kind, depth)
			im.Pal = make([]int, n)
			want := api.OK
			if n%3 != 0 || n/3 > most || kind == api.Palette && n == 0 {
				want = api.ErrPalette
			}
			expect(t, "a palette", im, want)
		}
		for _, v := range []int{math.MinInt, -1, 256, 1 << 32, math.MaxInt} {
			for at := range 3 * min(most, 2) {
				im := image(kind, depth)
				im.Pal = make([]int, 3*min(most, 2))
				im.Pal[at] = 255
				expect(t, "a colour of 255", im, api.OK)
				im.Pal[at] = v
				expect(t, "a colour that is none", im, api.ErrPalette)
			}
		}
	})
}

func TestClears(t *testing.T) {
	forKinds(func(kind, depth int) {
		for n := range 300 {
			for colours := 1; kind == api.Palette && colours <= min(1<<depth, 17); colours++ {
				im := image(kind, depth)
				im.Pal = make([]int, 3*colours)
				im.Clear = of(n, 255)
				want := api.OK
				if n > colours {
					want = api.ErrClear
				}
				expect(t, "alphas", im, want)
			}
			if kind == api.Palette {
				continue
			}
			im := image(kind, depth)
			im.Clear = of(n, 1)
			want := api.ErrClear
			if n == 0 || kind == api.Grey && n == 1 || kind == api.Rgb && n == 3 {
				want = api.OK
			}
			expect(t, "clear samples", im, want)
		}
		if kind == api.GreyAlpha || kind == api.RgbAlpha {
			return
		}
		end := 1 << depth
		if kind == api.Palette {
			end = 256
		}
		n := len(image(kind, depth).Pix)
		for at := range n {
			for _, v := range []int{math.MinInt, -1, 0, end - 1, end, 1 << 32, math.MaxInt} {
				im := image(kind, depth)
				im.Clear = make([]int, n)
				im.Clear[at] = v
				want := api.ErrClear
				if v >= 0 && v < end {
					want = api.OK
				}
				expect(t, "a clear sample", im, want)
			}
		}
	})
}

func TestSamples(t *testing.T) {
	forKinds(func(kind, depth int) {
		one := len(image(kind, depth).Pix)
		for n := range 3*one*2*3 + 1 {
			im := image(kind, depth)
			im.W, im.H, im.Pix = 2, 3, make([]int, n)
			want := api.ErrPix
			if n == 6*one {
				want = api.OK
			}
			expect(t, "samples", im, want)
		}
		for at := range 6 * one {
			for _, v := range []int{math.MinInt, -1, 0, 1, 1<<depth - 1, 1 << depth, 1 << 32, math.MaxInt} {
				im := image(kind, depth)
				im.W, im.H, im.Pix = 3, 2, make([]int, 6*one)
				im.Pix[at] = v
				end := 1 << depth
				if kind == api.Palette {
					end = 2
					im.Pal = make([]int, 6)
				}
				want := api.ErrPix
				if v >= 0 && v < end {
					want = api.OK
				}
				expect(t, "a sample", im, want)
			}
		}
	})
}

// Of two errors the earlier one is told.
func TestOrder(t *testing.T) {
	for _, c := range []struct {
		name string
		im   api.Image
		want api.Errno
	}{
		{"all wrong", api.Image{W: 0, H: 1, Kind: 9, Depth: 9, Pal: []int{999}, Clear: []int{-1}, Pix: []int{-1}}, api.ErrSide},
		{"height and all behind it", api.Image{W: 1, H: 0, Kind: 9, Depth: 9, Pal: []int{999}, Clear: []int{-1}, Pix: []int{-1}}, api.ErrSide},
		{"kind and all behind it", api.Image{W: 1, H: 1, Kind: 9, Depth: 8, Pal: []int{999}, Clear: []int{-1}, Pix: []int{-1}}, api.ErrKind},
		{"depth and all behind it", api.Image{W: 1, H: 1, Kind: 3, Depth: 16, Pal: []int{999}, Clear: []int{-1}, Pix: []int{-1}}, api.ErrKind},
		{"palette and all behind it", api.Image{W: 1, H: 1, Kind: 3, Depth: 8, Pal: []int{999}, Clear: []int{-1}, Pix: []int{-1}}, api.ErrPalette},
		{"no palette, and alphas", api.Image{W: 1, H: 1, Kind: 3, Depth: 8, Clear: []int{1}, Pix: []int{0}}, api.ErrPalette},
		{"clear and all behind it", api.Image{W: 1, H: 1, Kind: 3, Depth: 8, Pal: []int{9, 9, 9}, Clear: []int{-1}, Pix: []int{-1}}, api.ErrClear},
		{"pixels alone", api.Image{W: 1, H: 1, Kind: 3, Depth: 8, Pal: []int{9, 9, 9}, Clear: []int{1}, Pix: []int{-1}}, api.ErrPix},
	} {
		expect(t, c.name, c.im, c.want)
	}
}

func TestChoices(t *testing.T) {
	great := []int{math.MinInt, math.MinInt + 1, -1 << 32, -1, 1 << 32, math.MaxInt}
	for _, c := range []struct {
		name        string
		turn        func(ch *api.Choice, n int)
		right, not  []int
		greatIsNone bool
	}{
		{"lace", func(ch *api.Choice, n int) { ch.Lace = n }, []int{0, 1}, []int{2}, true},
		{"a filter", func(ch *api.Choice, n int) { ch.Filters = []int{0, 0, n} }, []int{0, 1, 2, 3, 4}, []int{5}, true},
		{"the first filter", func(ch *api.Choice, n int) { ch.Filters = []int{n, 0} }, []int{4}, []int{5}, true},
		{"a kind", func(ch *api.Choice, n int) { ch.Kinds = []int{0, 0, n} }, []int{0, 1, 2}, []int{3}, true},
		{"the first kind", func(ch *api.Choice, n int) { ch.Kinds = []int{n, 0} }, []int{2}, []int{3}, true},
		{"window", func(ch *api.Choice, n int) { ch.Window = n }, []int{0, 1, 2, 3, 4, 5, 6, 7}, []int{8}, true},
		{"search", func(ch *api.Choice, n int) { ch.Search = n }, []int{0, 1, 63, 64}, []int{65}, true},
		{"part", func(ch *api.Choice, n int) { ch.Part = n }, []int{1, 2, 65535, 65536, 1 << 32, math.MaxInt}, []int{math.MinInt, -1, 0}, false},
		{"a cut", func(ch *api.Choice, n int) { ch.Cuts = []int{1, n, 1} }, []int{0, 1, 65536, 1 << 32, math.MaxInt}, []int{math.MinInt, -1}, false},
		{"the only cut", func(ch *api.Choice, n int) { ch.Cuts = []int{n} }, []int{1, 65536, 1 << 32, math.MaxInt}, []int{math.MinInt, -1, 0}, false},
		{"cuts of one value", func(ch *api.Choice, n int) { ch.Cuts = of(3, n) }, []int{1, math.MaxInt}, []int{math.MinInt, -1, 0}, false},
		{"filters", func(ch *api.Choice, n int) { ch.Filters = make([]int, n) }, []int{1, 2, 63, 64}, []int{0, 65, 1000}, false},
		{"kinds", func(ch *api.Choice, n int) { ch.Kinds = make([]int, n) }, []int{1, 2, 63, 64}, []int{0, 65, 1000}, false},
		{"cuts", func(ch *api.Choice, n int) { ch.Cuts = of(n, 1) }, []int{1, 2, 63, 64}, []int{0, 65, 1000}, false},
		{"the last of the cuts", func(ch *api.Choice, n int) { ch.Cuts = append(make([]int, n), 1) }, []int{0, 1, 63}, []int{64}, false},
	} {
		if c.greatIsNone {
			c.not = append(c.not, great...)
		}
		for want, l := range map[api.Errno][]int{api.OK: c.right, api.ErrChoice: c.not} {
			for _, n := range l {
				ch := choice()
				c.turn(&ch, n)
				if got := Choice(ch); got != want {
					t.Errorf("P9: %s: %d: %d, want %d", c.name, n, got, want)
				}
			}
		}
	}
	if got := Choice(api.Choice{}); got != api.ErrChoice {
		t.Errorf("P9: nothing chosen: %d", got)
	}
}
