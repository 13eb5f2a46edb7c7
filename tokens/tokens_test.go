package tokens

import (
	"fmt"
	"math"
	"math/rand"
	"slices"
	"strings"
	"testing"
)

// told: tokens as a text: bytes as they are, copies as length and distance.
func told(l []Token) string {
	var s strings.Builder
	for _, t := range l {
		if t.Length == 0 {
			s.WriteByte(t.Byte)
		} else {
			fmt.Fprintf(&s, "(%d %d)", t.Length, t.Distance)
		}
	}
	return s.String()
}

// noise: so many bytes in which no three come twice.
func noise(n int) string {
	r := rand.New(rand.NewSource(int64(n)))
	seen := map[string]bool{}
	var b []byte
	for len(b) < n {
		b = append(b, byte(r.Intn(256)))
		if i := len(b) - 3; i >= 0 {
			three := string(b[i:])
			if seen[three] {
				b = b[:i+2]
			}
			seen[three] = true
		}
	}
	return string(b)
}

func TestEdges(t *testing.T) {
	all := Search{Window: 256, Places: 64}
	for _, c := range []struct {
		name string
		data string
		from int
		s    Search
		want string
	}{
		{"the document's example", "\x01\x02\x03\x09\x01\x02\x03\x01\x02\x03\x01\x02", 0, Search{256, 2}, "\x01\x02\x03\x09(3 4)(5 3)"},
		{"nothing", "", 0, all, ""},
		{"one byte", "a", 0, all, "a"},
		{"no copy", "abcdefgh", 0, all, "abcdefgh"},
		{"a copy of 3", "abc.abc!", 0, all, "abc.(3 4)!"},
		{"two bytes alike", "ab.ab!ab", 0, all, "ab.ab!ab"},
		{"two bytes left", "aaa.aa", 0, all, "aaa.aa"},
		{"three bytes left", "aaa.aaa", 0, all, "aaa.(3 4)"},
		{"one byte left", "abcabca", 3, all, "(4 3)"},
		{"one byte left behind a copy", "abc.dbc.abcd", 8, all, "(3 8)d"},
		{"two bytes of a block, the same ahead", "abcab", 3, all, "ab"},
		{"three bytes of a block, the same ahead", "abcabc", 3, all, "(3 3)"},
		{"over the place itself, from 1 back", "aaaaaaa", 0, all, "a(6 1)"},
		{"over the place itself, from 2 back", "abababa", 0, all, "ab(5 2)"},
		{"over the place itself, not all of it", "abcabcabx", 0, all, "abc(5 3)x"},
		{"up to the place itself", "abcdabcdX", 0, all, "abcd(4 4)X"},
		{"from blocks ahead, over the block's beginning", "xyzwxyzwxy", 6, all, "(4 4)"},
		{"none beyond the block's end", "abcdefgh.abcde", 0, all, "abcdefgh.(5 9)"},
		{"Search 0", "aaaaaaaaa", 0, Search{256, 0}, "aaaaaaaaa"},
		{"Search 1: the nearest alone", "abcde1abc2abcde", 10, Search{256, 1}, "(3 4)de"},
		{"Search 2: the longer one", "abcde1abc2abcde", 10, Search{256, 2}, "(5 10)"},
		{"places at which two bytes stand do not count", "abcde1abx2aby3abcde", 14, Search{256, 1}, "(5 14)"},
		{"equals: the nearest", "abcd1abcd2abcd3", 10, all, "(4 5)3"},
		{"equals, a shorter one nearer", "abcd1abcd2abc3abcd4", 14, all, "(4 9)4"},
		{"equals at the block's end", "abcdef1abcd2abcd", 12, all, "(4 5)"},
		{"the longest is the farthest", "abcde1abcd2abc3abcde4", 15, Search{256, 3}, "(5 15)4"},
		{"the longest is beyond those that count", "abcde1abcd2abc3abcde4", 15, Search{256, 2}, "(4 9)e4"},
		{"a window of 4", "abc1abc", 4, Search{4, 64}, "(3 4)"},
		{"a window of 3", "abc1abc", 4, Search{3, 64}, "abc"},
		{"the longer one is beyond the window", "abcd1abc2abcd", 9, Search{8, 64}, "(3 4)d"},
		{"a copy of 258", strings.Repeat("a", 259), 0, all, "a(258 1)"},
		{"258, and one more", strings.Repeat("a", 260), 0, all, "a(258 1)a"},
		{"258, and two more", strings.Repeat("a", 261), 0, all, "a(258 1)aa"},
		{"258, and three more", strings.Repeat("a", 262), 0, all, "a(258 1)(3 1)"},
		{"twice 258", strings.Repeat("ab", 300), 0, Search{32768, 64}, "ab(258 2)(258 2)(82 2)"},
	} {
		if got := told(Of([]byte(c.data), c.from, c.s)); got != c.want {
			t.Errorf("P12: %s: %q, want %q", c.name, got, c.want)
		}
	}
}

// A distance of the whole window, and one beyond it.
func TestWindows(t *testing.T) {
	for window := 256; window <= 32768; window *= 2 {
		for _, far := range []int{window - 1, window, window + 1} {
			s := noise(far)
			s = "\x01\x02\x03" + s[3:] + "\x01\x02\x03"
			want := "\x01\x02\x03"
			if far <= window {
				want = fmt.Sprintf("(3 %d)", far)
			}
			if got := told(Of([]byte(s), far, Search{window, 1})); got != want {
				t.Errorf("P12: window %d, %d back: %q, want %q", window, far, got, want)
			}
		}
	}
}

// Search 64: the 64th place counts, the next one does not.
func TestPlaces(t *testing.T) {
	for _, search := range []int{1, 2, 63, 64} {
		for _, nearer := range []int{search - 1, search} {
			s := "abcde"
			for k := range nearer {
				s += "abc" + string([]byte{128 + byte(k)})
			}
			want := "(3 4)de"
			if nearer < search {
				want = fmt.Sprintf("(5 %d)", len(s))
			}
			if got := told(Of([]byte(s+"abcde"), len(s), Search{32768, search})); got != want {
				t.Errorf("P12: Search %d, %d places nearer: %q, want %q", search, nearer, got, want)
			}
		}
	}
}

// 258 is as long as a longer one: the nearest counts.
func TestLongEquals(t *testing.T) {
	a := noise(300)
	s := a + "1" + a[:258] + "2"
	if got, want := told(Of([]byte(s+a), len(s), Search{32768, 64})), "(258 259)(42 560)"; got != want {
		t.Errorf("P12: equals of 258: %q, want %q", got, want)
	}
	s = a + "1" + a[:257] + "2"
	if got, want := told(Of([]byte(s+a), len(s), Search{32768, 64})), "(258 559)(42 559)"; got != want {
		t.Errorf("P12: 257 and 258: %q, want %q", got, want)
	}
}

// must: the tokens by the document's words: all places first, then those that count, then the best of these.
func must(s string, from, window, search int) []Token {
	var l []Token
	for p := from; p < len(s); {
		t := Token{Byte: s[p]}
		var places []int
		for q := range p {
			if len(s)-p >= 3 && p-q <= window && s[q:q+3] == s[p:p+3] {
				places = append(places, q)
			}
		}
		slices.Reverse(places)
		for _, q := range places[:min(search, len(places))] {
			n := 3
			for n < 258 && p+n < len(s) && s[q+n] == s[p+n] {
				n++
			}
			if n > t.Length {
				t = Token{0, n, p - q}
			}
		}
		l = append(l, t)
		p += max(1, t.Length)
	}
	return l
}

func TestRandom(t *testing.T) {
	r := rand.New(rand.NewSource(1))
	for range 3000 {
		b := make([]byte, r.Intn(1+r.Intn(400)))
		values := 1 + r.Intn(4)
		for i := range b {
			b[i] = 'a' + byte(r.Intn(values))
			if i > 0 && r.Intn(3) > 0 {
				b[i] = b[max(0, i-1-r.Intn(9))]
			}
		}
		from := r.Intn(1 + len(b))
		s := Search{1 + r.Intn(1+r.Intn(400)), r.Intn(1 + r.Intn(65))}
		got := Of(b, from, s)
		if want := must(string(b), from, s.Window, s.Places); !slices.Equal(got, want) {
			t.Fatalf("P12: %q from %d on, %+v: %q, want %q", b, from, s, told(got), told(want))
		}
		given := slices.Clone(b[:from])
		for _, x := range got {
			if x.Length == 0 {
				given = append(given, x.Byte)
			}
			for range x.Length {
				given = append(given, given[len(given)-x.Distance])
			}
		}
		if string(given) != string(b) {
			t.Fatalf("P12: %q from %d on, %+v: read as %q", b, from, s, given)
		}
	}
}

// Numbers that are none make no panic, and what stands behind data is neither read nor written into.
func TestNone(t *testing.T) {
	for _, n := range []int{math.MinInt, -1, 0, 1, 6, 7, math.MaxInt} {
		for _, m := range []int{math.MinInt, -1, 0, 1, math.MaxInt} {
			Of([]byte("aaaaaa"), n, Search{m, n})
			Of([]byte("aaaaaa"), n, Search{n, m})
			Of(nil, n, Search{n, m})
		}
	}
	data := []byte("abcabcabc")
	if got := told(Of(data[:6], 0, Search{256, 9})); got != "abc(3 3)" || string(data) != "abcabcabc" {
		t.Errorf("P1: %q, %q", got, data)
	}
}
