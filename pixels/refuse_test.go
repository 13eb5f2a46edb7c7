package pixels_test

import (
	"fmt"
	"math"
	"math/rand"
	"slices"
	"testing"

	"pixels/api"
	"pixels/pixels"
)

// outside: whether a member of the list is not 0 to most.
func outside(l []int, most int) bool {
	return slices.ContainsFunc(l, func(v int) bool { return v < 0 || v > most })
}

// refusal: why Encode must refuse this, by the document's words, or OK.
func refusal(im api.Image, ch api.Choice) api.Errno {
	if min(im.W, im.H) < 1 || max(im.W, im.H) > 16 {
		return api.ErrSide
	}
	legal := false
	forKinds(func(kind, depth int) { legal = legal || im.Kind == kind && im.Depth == depth })
	if !legal {
		return api.ErrKind
	}
	top := 1<<im.Depth - 1
	most := map[int]int{api.Palette: 1 + top, api.Rgb: 256, api.RgbAlpha: 256}[im.Kind]
	n := len(im.Pal) / 3
	if outside(im.Pal, 255) || len(im.Pal) > 768 || len(im.Pal) != 3*n || n > most || im.Kind == api.Palette && n == 0 {
		return api.ErrPalette
	}
	if len(im.Clear) > 0 {
		switch im.Kind {
		case api.GreyAlpha, api.RgbAlpha:
			return api.ErrClear
		case api.Palette:
			if len(im.Clear) > n || outside(im.Clear, 255) {
				return api.ErrClear
			}
		default:
			if len(im.Clear) != samplesOf[im.Kind] || outside(im.Clear, top) {
				return api.ErrClear
			}
		}
	}
	if im.Kind == api.Palette {
		top = n - 1
	}
	if len(im.Pix) != im.W*im.H*samplesOf[im.Kind] || outside(im.Pix, top) {
		return api.ErrPix
	}
	wrong := outside([]int{ch.Lace}, 1) || outside(ch.Filters, 4) || outside(ch.Kinds, 2) || outside(ch.Cuts, math.MaxInt)
	for _, l := range [][]int{ch.Filters, ch.Kinds, ch.Cuts} {
		wrong = wrong || len(l) == 0 || len(l) > 64
	}
	some := slices.ContainsFunc(ch.Cuts, func(v int) bool { return v != 0 })
	if wrong || !some || ch.Part < 1 || outside([]int{ch.Window}, 7) || outside([]int{ch.Search}, 64) {
		return api.ErrChoice
	}
	return api.OK
}

// refuses: Encode tells e, and answers no text with an error.
func refuses(t *testing.T, name string, im api.Image, ch api.Choice, e api.Errno) {
	t.Helper()
	s, got := pixels.NewEncoder().Encode(im, ch)
	if got != e || (s == "") != (e != api.OK) {
		t.Errorf("P9: %s: %+v, %+v: %d bytes, %d, want %d", name, im, ch, len(s), got, e)
	}
}

// small: a picture of one pixel of that kind, and a choice, that are not refused.
func small(kind, depth int) (api.Image, api.Choice) {
	im := api.Image{W: 1, H: 1, Kind: kind, Depth: depth, Pix: make([]int, samplesOf[kind])}
	if kind == api.Palette {
		im.Pal = []int{1, 2, 3}
	}
	return im, api.Choice{Filters: []int{0}, Kinds: []int{0}, Part: 9, Cuts: []int{99}}
}

func TestRefusedExamples(t *testing.T) {
	_, ch := small(0, 8)
	for _, c := range []struct {
		im api.Image
		e  api.Errno
	}{
		{api.Image{W: 0, H: 1, Depth: 8, Pix: []int{7}}, api.ErrSide},
		{api.Image{W: 1, H: 1, Kind: 3, Depth: 16, Pal: []int{1, 2, 3}, Pix: []int{0}}, api.ErrKind},
		{api.Image{W: 1, H: 1, Kind: 3, Depth: 1, Pal: make([]int, 9), Pix: []int{0}}, api.ErrPalette},
		{api.Image{W: 1, H: 1, Kind: 0, Depth: 4, Clear: []int{16}, Pix: []int{0}}, api.ErrClear},
		{api.Image{W: 2, H: 1, Kind: 0, Depth: 1, Pix: []int{0, 2}}, api.ErrPix},
	} {
		refuses(t, "an example", c.im, ch, c.e)
	}
	im, ch := small(0, 8)
	ch.Cuts = []int{0, 0}
	refuses(t, "an example", im, ch, api.ErrChoice)
	refuses(t, "nothing at all", api.Image{}, api.Choice{}, api.ErrSide)
}

var numbers = []int{math.MinInt, math.MinInt + 1, -1 << 32, -256, -16, -2, -1, 0, 1, 2, 3, 4, 5, 6, 7, 8, 9, 15, 16, 17, 64, 65, 254, 255, 256, 257, 65535, 65536, 1<<32 - 1, 1 << 32, 1<<32 + 1, 1<<32 + 8, math.MaxInt}

var sizes = []int{0, 1, 2, 3, 4, 5, 6, 7, 9, 12, 15, 48, 51, 63, 64, 65, 255, 256, 257, 765, 767, 768, 769, 771, 3000}

// listOf: a list of n members of this value.
func listOf(n, v int) []int { return slices.Repeat([]int{v}, n) }

// Each number and each list, one at a time, at all the values that may matter.
func TestRefusedOneByOne(t *testing.T) {
	told := map[api.Errno]int{}
	forKinds(func(kind, depth int) {
		try := func(name string, turn func(im *api.Image, ch *api.Choice)) {
			im, ch := small(kind, depth)
			turn(&im, &ch)
			want := refusal(im, ch)
			told[want]++
			refuses(t, name, im, ch, want)
		}
		for _, n := range numbers {
			try("W", func(im *api.Image, ch *api.Choice) { im.W = n })
			try("W, and samples", func(im *api.Image, ch *api.Choice) { im.W, im.Pix = n, make([]int, samplesOf[kind]*max(0, min(n, 99))) })
			try("H", func(im *api.Image, ch *api.Choice) { im.H = n })
			try("H, and samples", func(im *api.Image, ch *api.Choice) { im.H, im.Pix = n, make([]int, samplesOf[kind]*max(0, min(n, 99))) })
			try("W and H below 0", func(im *api.Image, ch *api.Choice) { im.W, im.H = n, n })
			try("Kind", func(im *api.Image, ch *api.Choice) { im.Kind = n })
			try("Depth", func(im *api.Image, ch *api.Choice) { im.Depth = n })
			try("Pal", func(im *api.Image, ch *api.Choice) { im.Pal = []int{1, 2, 3, 4, n, 6} })
			try("Clear", func(im *api.Image, ch *api.Choice) { im.Clear = []int{n} })
			try("Clear of three", func(im *api.Image, ch *api.Choice) { im.Clear = []int{0, 0, n} })
			try("Clear of three first", func(im *api.Image, ch *api.Choice) { im.Clear = []int{n, 0, 0} })
			try("Pix", func(im *api.Image, ch *api.Choice) { im.Pix[len(im.Pix)-1] = n })
			try("Pix first", func(im *api.Image, ch *api.Choice) { im.Pix[0] = n })
			try("Lace", func(im *api.Image, ch *api.Choice) { ch.Lace = n })
			try("Filters", func(im *api.Image, ch *api.Choice) { ch.Filters = []int{0, n} })
			try("Filters first", func(im *api.Image, ch *api.Choice) { ch.Filters = []int{n, 0} })
			try("Kinds", func(im *api.Image, ch *api.Choice) { ch.Kinds = []int{0, n} })
			try("Kinds first", func(im *api.Image, ch *api.Choice) { ch.Kinds = []int{n, 0} })
			try("Cuts", func(im *api.Image, ch *api.Choice) { ch.Cuts = []int{1, n} })
			try("Cuts first", func(im *api.Image, ch *api.Choice) { ch.Cuts = []int{n, 1} })
			try("Cuts alone", func(im *api.Image, ch *api.Choice) { ch.Cuts = []int{n} })
			try("Part", func(im *api.Image, ch *api.Choice) { ch.Part = n })
			try("Window", func(im *api.Image, ch *api.Choice) { ch.Window = n })
			try("Search", func(im *api.Image, ch *api.Choice) { ch.Search = n })
		}
		for _, n := range sizes {
			try("a Pal of some size", func(im *api.Image, ch *api.Choice) { im.Pal = listOf(n, 255) })
			try("a Pal of some size, wrong at its end", func(im *api.Image, ch *api.Choice) { im.Pal = append(listOf(n, 255), 256) })
			try("a Clear of some size", func(im *api.Image, ch *api.Choice) { im.Clear = listOf(n, 1) })
			try("a Clear of some size, and colours", func(im *api.Image, ch *api.Choice) { im.Clear, im.Pal = listOf(n, 255), listOf(3*256, 1) })
			try("a Clear of some size, and few colours", func(im *api.Image, ch *api.Choice) { im.Clear, im.Pal = listOf(n, 1), listOf(6, 1) })
			try("a Pix of some size", func(im *api.Image, ch *api.Choice) { im.Pix = listOf(n, 0) })
			try("a Pix of some size, of 16 by 4", func(im *api.Image, ch *api.Choice) { im.W, im.H, im.Pix = 16, 4, listOf(n, 0) })
			try("Filters of some size", func(im *api.Image, ch *api.Choice) { ch.Filters = listOf(n, 4) })
			try("Kinds of some size", func(im *api.Image, ch *api.Choice) { ch.Kinds = listOf(n, 1) })
			try("Cuts of some size", func(im *api.Image, ch *api.Choice) { ch.Cuts = listOf(n, 1) })
			try("Cuts of 0", func(im *api.Image, ch *api.Choice) { ch.Cuts = listOf(n, 0) })
			try("Cuts of 0 but one", func(im *api.Image, ch *api.Choice) { ch.Cuts = append(listOf(n, 0), 1) })
		}
	})
	for _, e := range []api.Errno{api.OK, api.ErrSide, api.ErrKind, api.ErrPalette, api.ErrClear, api.ErrPix, api.ErrChoice} {
		if told[e] < 100 {
			t.Errorf("error %d came up %d times only", e, told[e])
		}
	}
}

// Where there are two errors, the first of P9's order is told.
func TestRefusedOrder(t *testing.T) {
	wrong := []struct {
		e    api.Errno
		turn func(im *api.Image, ch *api.Choice)
	}{
		{api.ErrSide, func(im *api.Image, ch *api.Choice) { im.W = 0 }},
		{api.ErrSide, func(im *api.Image, ch *api.Choice) { im.H = 17 }},
		{api.ErrKind, func(im *api.Image, ch *api.Choice) { im.Kind = 1 }},
		{api.ErrKind, func(im *api.Image, ch *api.Choice) { im.Depth = 16 }},
		{api.ErrPalette, func(im *api.Image, ch *api.Choice) { im.Pal = nil }},
		{api.ErrPalette, func(im *api.Image, ch *api.Choice) { im.Pal = []int{1, 2, 3, 4, 5, 256} }},
		{api.ErrPalette, func(im *api.Image, ch *api.Choice) { im.Pal = []int{1, 2, 3, 4} }},
		{api.ErrClear, func(im *api.Image, ch *api.Choice) { im.Clear = []int{256} }},
		{api.ErrClear, func(im *api.Image, ch *api.Choice) { im.Clear = []int{1, 2, 3} }},
		{api.ErrPix, func(im *api.Image, ch *api.Choice) { im.Pix = []int{2} }},
		{api.ErrPix, func(im *api.Image, ch *api.Choice) { im.Pix = nil }},
		{api.ErrChoice, func(im *api.Image, ch *api.Choice) { ch.Cuts = nil }},
		{api.ErrChoice, func(im *api.Image, ch *api.Choice) { ch.Window = 8 }},
	}
	for i, a := range wrong {
		for _, b := range wrong[i:] {
			im, ch := small(api.Palette, 8)
			im.Pal = []int{1, 2, 3, 4, 5, 6}
			b.turn(&im, &ch)
			a.turn(&im, &ch)
			refuses(t, fmt.Sprintf("errors %d and %d", a.e, b.e), im, ch, a.e)
		}
	}
}

// spoil: turns something of what is handed in into something that may be wrong.
func spoil(r *rand.Rand, im *api.Image, ch *api.Choice) {
	ints := []*int{&im.W, &im.H, &im.Kind, &im.Depth, &ch.Lace, &ch.Part, &ch.Window, &ch.Search}
	all := []*[]int{&im.Pal, &im.Clear, &im.Pix, &ch.Filters, &ch.Kinds, &ch.Cuts}
	l := all[r.Intn(len(all))]
	switch r.Intn(4) {
	case 0:
		*ints[r.Intn(len(ints))] = one(r, numbers...)
	case 1:
		*l = behind(listOf(one(r, sizes...), one(r, 0, 1, r.Intn(300))))
	case 2:
		*l = behind((*l)[:r.Intn(1+len(*l))])
	case 3:
		if len(*l) > 0 {
			(*l)[r.Intn(len(*l))] = one(r, numbers...)
		}
	}
}

// Random pictures and choices with some things wrong: no call panics, and each error comes when it must.
func TestRefusedRandom(t *testing.T) {
	r := rand.New(rand.NewSource(8))
	told := map[api.Errno]int{}
	for range 20000 {
		k := one(r, kinds...)
		m := image{w: 1 + r.Intn(3), h: 1 + r.Intn(3), kind: k.kind, depth: one(r, k.depths...), lace: r.Intn(2)}.filled(r)
		im, ch := m.given(), randomChoice(r, m.lace, 30)
		for range r.Intn(4) {
			spoil(r, &im, &ch)
		}
		want := refusal(im, ch)
		told[want]++
		refuses(t, "a random picture", im, ch, want)
	}
	for _, e := range []api.Errno{api.OK, api.ErrSide, api.ErrKind, api.ErrPalette, api.ErrClear, api.ErrPix, api.ErrChoice} {
		if told[e] < 200 {
			t.Errorf("error %d came up %d times only", e, told[e])
		}
	}
}
