package pixels_test

import (
	"fmt"
	"slices"
	"strings"
	"testing"

	"pixels/api"
)

func TestSignature(t *testing.T) {
	for i := range len(sign) {
		tells(t, "a part of the signature", sign[:i], api.OK, 0)
		for b := range 256 {
			if byte(b) != sign[i] {
				tells(t, fmt.Sprintf("byte %d is %02x", i, b), sign[:i]+string([]byte{byte(b)})+sign, api.ErrSign, i)
			}
		}
	}
	tells(t, "the signature", sign, api.OK, 0)
	tells(t, "the example", "\x88", api.ErrSign, 0)
}

func TestLengths(t *testing.T) {
	for _, n := range []uint32{0, 13, 1<<31 - 1, 1 << 31, 1<<31 + 13, 1<<32 - 1} {
		e, at := api.OK, 0
		if n >= 1<<31 {
			e, at = api.ErrLen, startSize+3
		}
		tells(t, fmt.Sprintf("length %d", n), start(api.Grey, 8)+four(n)+"abCd", e, at)
	}
	tells(t, "the first chunk's, ahead of its type", sign+four(1<<31)+"!!!!", api.ErrLen, 11)
	tells(t, "the example", sign+"\x80\x00\x00\x00", api.ErrLen, 11)
	tells(t, "a great length that is passed over", start(api.Grey, 8)+opened(1<<31-1, "abCd")+strings.Repeat("x", 3000), api.OK, 0)
}

// Each byte of a type that is passed over, at all values.
func TestLettersOfTypes(t *testing.T) {
	for i := range 4 {
		for b := range 256 {
			small := b >= 'a' && b <= 'z'
			capital := b >= 'A' && b <= 'Z'
			good := small || capital
			if i == 0 {
				good = small
			}
			if i == 2 {
				good = capital
			}
			kind := []byte("abCd")
			kind[i] = byte(b)
			e, at := api.OK, 0
			if !good {
				e, at = api.ErrType, atType(startSize)
			}
			tells(t, fmt.Sprintf("type %q", kind), start(api.Grey, 8)+chunk(string(kind), "xyz"), e, at)
		}
	}
}

func TestUnknownTypes(t *testing.T) {
	s := start(api.Rgb, 8)
	for _, kind := range []string{"IHDr", "PLTe", "TRNS", "IDAt", "IEnd", "IENX", "ABCD"} {
		tells(t, kind, s+chunk(kind, ""), api.ErrType, atType(startSize))
	}
	for _, kind := range []string{"iHDR", "pLTE", "tRNs", "iDAT", "iEND", "tEXt", "zZZz", "aAAa"} {
		tells(t, kind, s+chunk(kind, "some data")+chunk(kind, "")+chunk("PLTE", "abc"), api.OK, 0)
	}
}

func TestFirstChunk(t *testing.T) {
	for _, kind := range []string{"PLTE", "tRNS", "IDAT", "IEND", "abCd", "ABCD", "IHDr", "iHDR"} {
		tells(t, "first "+kind, sign+opened(13, kind), api.ErrOrder, atType(8))
		tells(t, "first "+kind+", empty", sign+chunk(kind, ""), api.ErrOrder, atType(8))
	}
	for _, kind := range []string{"IH R", "IHdR", "\x00\x00\x00\x00", "abcd"} {
		tells(t, "first "+kind, sign+opened(12, kind), api.ErrType, atType(8))
	}
	for _, n := range []uint32{0, 1, 12, 14, 26, 1<<31 - 1} {
		tells(t, fmt.Sprintf("a header of %d", n), sign+opened(n, "IHDR"), api.ErrSize, atType(8))
	}
	tells(t, "the example", sign+"\x00\x00\x00\x0dIDAT", api.ErrOrder, 15)
	tells(t, "a second header", start(api.Grey, 8)+opened(13, "IHDR"), api.ErrOrder, atType(startSize))
	tells(t, "a second header of 12", start(api.Grey, 8)+opened(12, "IHDR"), api.ErrOrder, atType(startSize))
	tells(t, "a second header, later", start(api.Grey, 8)+chunk("abCd", "")+opened(13, "IHDR"), api.ErrOrder, atType(startSize+12))
}

// PLTE of every length, with every kind and depth.
func TestPaletteSizes(t *testing.T) {
	forKinds(func(kind, depth int) {
		for n := range 780 {
			e := api.OK
			if kind == api.Grey || kind == api.GreyAlpha {
				e = api.ErrOrder
			} else if n < 3 || n > 768 || n%3 != 0 || kind == api.Palette && n > 3<<depth {
				e = api.ErrSize
			}
			at := 0
			if e != api.OK {
				at = atType(startSize)
			}
			if n > 60 && n < 750 && n%64 > 2 {
				continue
			}
			tells(t, fmt.Sprintf("kind %d, depth %d, palette of %d", kind, depth, n), start(kind, depth)+chunk("PLTE", strings.Repeat("x", n)), e, at)
		}
	})
	tells(t, "a palette of 2^30 colours", start(api.Rgb, 8)+opened(3<<29, "PLTE"), api.ErrSize, atType(startSize))
}

func TestPaletteOrder(t *testing.T) {
	rgb := start(api.Rgb, 8)
	clear := chunk("tRNS", "\x00a\x00b\x00c")
	for _, n := range []uint32{3, 4} {
		tells(t, "two palettes", rgb+colours(1)+opened(n, "PLTE"), api.ErrOrder, atType(startSize+15))
		tells(t, "two palettes, one between", rgb+colours(1)+chunk("abCd", "")+opened(n, "PLTE"), api.ErrOrder, atType(startSize+27))
		tells(t, "a palette behind tRNS", rgb+clear+opened(n, "PLTE"), api.ErrOrder, atType(startSize+18))
	}
	tells(t, "tRNS behind a palette", rgb+colours(256)+clear, api.OK, 0)
	tells(t, "a palette behind another chunk", rgb+chunk("abCd", "")+colours(1), api.OK, 0)
}

// tRNS of every length that is near, with every kind and depth, with as many colours as there may be and fewer.
func TestClearSizes(t *testing.T) {
	forKinds(func(kind, depth int) {
		for _, n := range []int{1, 2, 3, 200, 256} {
			if kind == api.Palette && n > 1<<depth {
				continue
			}
			s := start(kind, depth)
			if kind != api.Grey && kind != api.GreyAlpha {
				s += colours(n)
			}
			for size := range n + 8 {
				if size > 10 && size < n-2 {
					continue
				}
				e := api.OK
				switch {
				case kind == api.GreyAlpha || kind == api.RgbAlpha:
					e = api.ErrOrder
				case kind == api.Grey && size != 2, kind == api.Rgb && size != 6, kind == api.Palette && (size < 1 || size > n):
					e = api.ErrSize
				}
				at := 0
				if e != api.OK {
					at = atType(len(s))
				}
				tells(t, fmt.Sprintf("kind %d, depth %d, %d colours, tRNS of %d", kind, depth, n, size), s+chunk("tRNS", strings.Repeat("\x00", size)), e, at)
			}
		}
	})
}

func TestClearOrder(t *testing.T) {
	for _, size := range []uint32{0, 1, 300} {
		tells(t, "tRNS without a palette", start(api.Palette, 8)+opened(size, "tRNS"), api.ErrOrder, atType(startSize))
		tells(t, "two tRNS", start(api.Grey, 8)+chunk("tRNS", "\x00a")+opened(size, "tRNS"), api.ErrOrder, atType(startSize+14))
		tells(t, "two tRNS of a palette", start(api.Palette, 8)+colours(1)+chunk("tRNS", "a")+opened(size, "tRNS"), api.ErrOrder, atType(startSize+15+13))
	}
}

func TestClearSamples(t *testing.T) {
	forKinds(func(kind, depth int) {
		samples := map[int]int{api.Grey: 1, api.Rgb: 3}[kind]
		for i := range samples {
			for _, v := range []int{0, 1, 1<<depth - 1, 1 << depth, 1<<depth + 1, 256, 65535} {
				if v > 65535 {
					continue
				}
				data := []byte(strings.Repeat("\x00\x00", samples))
				data[2*i], data[2*i+1] = byte(v>>8), byte(v)
				s := start(kind, depth) + chunk("tRNS", string(data))
				e, at := api.OK, 0
				if v >= 1<<depth {
					e, at = api.ErrTrans, len(s)-1
				}
				tells(t, fmt.Sprintf("kind %d, depth %d, sample %d is %d", kind, depth, i, v), s, e, at)
			}
		}
	})
	s := start(api.Palette, 1) + colours(2) + chunk("tRNS", "\xff\xff")
	tells(t, "alphas are bytes at any depth", s, api.OK, 0)
}

// Each bit of each kind of chunk's data and sum: another one is told at the sum's last byte.
func TestSums(t *testing.T) {
	h := start(api.Rgb, 8)
	p := start(api.Palette, 1) + colours(2)
	for _, c := range []struct{ ahead, chunk string }{
		{sign, head(1, 1, 8, 2, "\x00\x00\x00")},
		{h, colours(1)},
		{h, chunk("tRNS", "\x00a\x00b\x00c")},
		{p, chunk("tRNS", "a")},
		{h, chunk("abCd", "")},
		{h, chunk("abCd", "some data")},
	} {
		for bit := 64; bit < 8*len(c.chunk); bit++ {
			b := []byte(c.chunk)
			b[bit/8] ^= 1 << (bit % 8)
			s := c.ahead + string(b)
			tells(t, fmt.Sprintf("%q, bit %d", c.chunk[4:8], bit), s, api.ErrCrc, len(s)-1)
		}
		tells(t, fmt.Sprintf("%q", c.chunk[4:8]), c.ahead+c.chunk, api.OK, 0)
	}
}

// A sum is of the type, too.
func TestSumOfAnotherType(t *testing.T) {
	s := chunk("abCd", "data")
	s = start(api.Grey, 8) + s[:4] + "abCe" + s[8:]
	tells(t, "another type", s, api.ErrCrc, len(s)-1)
}

// At one byte the sum comes first.
func TestSumAheadOfContents(t *testing.T) {
	for _, c := range []string{
		sign + head(0, 1, 8, 0, "\x00\x00\x00"),
		sign + head(17, 1, 8, 0, "\x00\x00\x00"),
		start(api.Grey, 1) + chunk("tRNS", "\x00\x02"),
	} {
		last := c[len(c)-1] ^ 1
		tells(t, "a wrong sum", c[:len(c)-1]+string([]byte{last}), api.ErrCrc, len(c)-1)
	}
}

func TestHeads(t *testing.T) {
	for kind := range 256 {
		for depth := range 256 {
			if kind > 7 && depth > 17 && kind != depth {
				continue
			}
			e, at := api.ErrHead, 32
			for _, k := range kinds {
				if k.kind == kind && slices.Contains(k.depths, depth) {
					e, at = api.OK, 0
				}
			}
			tells(t, fmt.Sprintf("kind %d, depth %d", kind, depth), start(kind, depth), e, at)
		}
	}
	for b := range 256 {
		for i := range 3 {
			last := []byte{0, 0, 0}
			last[i] = byte(b)
			e, at := api.ErrHead, 32
			if b == 0 || i == 2 && b == 1 {
				e, at = api.OK, 0
			}
			tells(t, fmt.Sprintf("last bytes %v", last), sign+head(16, 1, 16, 6, string(last)), e, at)
		}
	}
}

func TestSides(t *testing.T) {
	for _, c := range []struct {
		w, h uint32
		e    api.Errno
	}{
		{1, 1, api.OK}, {16, 16, api.OK}, {1, 16, api.OK}, {16, 1, api.OK},
		{0, 1, api.ErrHead}, {1, 0, api.ErrHead}, {0, 17, api.ErrHead}, {17, 0, api.ErrHead},
		{1 << 31, 1, api.ErrHead}, {1, 1 << 31, api.ErrHead}, {1<<32 - 1, 1, api.ErrHead}, {17, 1 << 31, api.ErrHead}, {1 << 31, 17, api.ErrHead},
		{17, 1, api.ErrLarge}, {1, 17, api.ErrLarge}, {1<<31 - 1, 1<<31 - 1, api.ErrLarge}, {256, 1, api.ErrLarge}, {1, 1 << 16, api.ErrLarge}, {1 << 24, 1, api.ErrLarge},
	} {
		at := 32
		if c.e == api.OK {
			at = 0
		}
		tells(t, fmt.Sprintf("%d by %d", c.w, c.h), sign+head(c.w, c.h, 8, 0, "\x00\x00\x00"), c.e, at)
	}
	tells(t, "too large and no kind", sign+head(17, 1, 8, 1, "\x00\x00\x00"), api.ErrHead, 32)
	tells(t, "too large and no interlacing", sign+head(17, 1, 8, 0, "\x00\x00\x02"), api.ErrHead, 32)
}

func TestFirstData(t *testing.T) {
	forKinds(func(kind, depth int) {
		s := start(kind, depth)
		if kind == api.Palette {
			tells(t, "IDAT without a palette", s+opened(5, "IDAT"), api.ErrOrder, atType(startSize))
			tells(t, "IDAT behind another chunk, without a palette", s+chunk("abCd", "")+opened(5, "IDAT"), api.ErrOrder, atType(startSize+12))
			s += colours(1)
		}
		tells(t, "IDAT", s+opened(5, "IDAT"), api.OK, 0)
		for _, n := range []uint32{0, 1} {
			tells(t, "IEND without IDAT", s+opened(n, "IEND"), api.ErrOrder, atType(len(s)))
		}
	})
}

// What the chunks behind IDATs tell, with a stream that is whole.
func TestBehindData(t *testing.T) {
	s := start(api.Rgb, 8) + chunk("IDAT", "") + chunk("IDAT", stream(t, "\x00abc")) + chunk("IDAT", "")
	for _, between := range []string{"", chunk("abCd", "xyz")} {
		ahead := s + between
		at := atType(len(ahead))
		for _, n := range []uint32{0, 3} {
			tells(t, "PLTE behind IDAT", ahead+opened(n, "PLTE"), api.ErrOrder, at)
			tells(t, "tRNS behind IDAT", ahead+opened(2*n, "tRNS"), api.ErrOrder, at)
			tells(t, "IHDR behind IDAT", ahead+opened(n, "IHDR"), api.ErrOrder, at)
			tells(t, "an unknown one behind IDAT", ahead+opened(n, "ABCD"), api.ErrType, at)
			tells(t, "an ill made one behind IDAT", ahead+opened(n, "abcd"), api.ErrType, at)
			if between != "" {
				tells(t, "IDAT behind another chunk", ahead+opened(n, "IDAT"), api.ErrOrder, at)
			}
		}
		tells(t, "IEND of a byte", ahead+opened(1, "IEND"), api.ErrSize, at)
		tells(t, "IEND, a wrong sum", ahead+opened(0, "IEND")+"\xae\x42\x60\x83", api.ErrCrc, at+4)
	}
	tells(t, "a wrong sum of IDAT", s[:len(s)-1]+"\x00", api.ErrCrc, len(s)-1)
}

// IDATs of fewer bytes than any stream has hold no whole one.
func TestNoStream(t *testing.T) {
	s := start(api.Rgb, 8)
	for n := range 8 {
		part := stream(t, "\x00abc")[:n]
		for _, data := range []string{chunk("IDAT", part), chunk("IDAT", part[:n/2]) + chunk("IDAT", part[n/2:]) + chunk("IDAT", "")} {
			for _, kind := range []string{"IEND", "PLTE", "tRNS", "IHDR", "ABCD", "abCd"} {
				tells(t, kind+" ahead of the stream's end", s+data+opened(1, kind), api.ErrShort, atType(len(s+data)))
			}
		}
	}
	s += chunk("IDAT", "")
	tells(t, "an ill made type ahead of the stream's end", s+opened(1, "abcd"), api.ErrType, atType(len(s)))
	tells(t, "a length ahead of the stream's end", s+four(1<<31), api.ErrLen, len(s)+3)
}
