package pixels_test

import (
	"fmt"
	"math/rand"
	"slices"
	"strings"
	"testing"

	"pixels/api"
	"pixels/deflate"
)

// A second reading of P12: what the blocks' tokens and codes must be.

// mustTokens: the tokens of the block s[from:], by the document's words: all places first, then those that count, then the best of these.
func mustTokens(s string, from int, ch api.Choice) []token {
	var l []token
	for p := from; p < len(s); {
		t := token{b: s[p]}
		var places []int
		for d := 1; d <= min(p, 256<<ch.Window) && len(s)-p >= 3; d++ {
			if s[p-d:p-d+3] == s[p:p+3] {
				places = append(places, d)
			}
		}
		for _, d := range places[:min(ch.Search, len(places))] {
			n := 3
			for n < min(258, len(s)-p) && s[p-d+n] == s[p+n] {
				n++
			}
			if n > t.length {
				t = token{0, n, d}
			}
		}
		l = append(l, t)
		p += max(1, t.length)
	}
	return l
}

// often: how often each literal and each distance occurs in a block.
func often(l []token) (literals, distances []int) {
	literals, distances = make([]int, 286), make([]int, 30)
	literals[256] = 1
	for _, t := range l {
		if t.length == 0 {
			literals[t.b]++
			continue
		}
		s, _, _ := lengthSymbol(t.length)
		literals[s]++
		s, _, _ = distanceSymbol(t.distance)
		distances[s]++
	}
	return literals, distances
}

// leastBits: the least total that codes of at most 15 bits can have, from coins: of each symbol one for each bit; two of a bit make one of the bit ahead, and of those of the first bit the cheapest are paid.
func leastBits(often []int) int {
	var coins []int
	for _, n := range often {
		if n > 0 {
			coins = append(coins, n)
		}
	}
	if len(coins) < 2 {
		return append(coins, 0)[0]
	}
	var row []int
	for range 15 {
		next := slices.Clone(coins)
		for i := 1; i < len(row); i += 2 {
			next = append(next, row[i-1]+row[i])
		}
		slices.Sort(next)
		row = next
	}
	sum := 0
	for _, n := range row[:2*len(coins)-2] {
		sum += n
	}
	return sum
}

// wrongCodes: why a block's codes are not what they must be, or nothing.
func wrongCodes(b seen) string {
	if b.kind != 2 {
		return ""
	}
	literals, distances := often(b.tokens)
	for _, c := range []struct {
		name           string
		often, lengths []int
	}{{"literals", literals, b.literals}, {"distances", distances, b.distances}} {
		sum, occurs := 0, 0
		for s, n := range c.lengths {
			if (n > 0) != (c.often[s] > 0) || n > 15 {
				return fmt.Sprintf("%s: %d comes %d times, its code has %d bits", c.name, s, c.often[s], n)
			}
			sum += n * c.often[s]
			occurs += min(n, 1)
		}
		if want := leastBits(c.often); sum != want {
			return fmt.Sprintf("%s: %v: %d bits, the least are %d", c.name, c.lengths, sum, want)
		}
		if occurs == 1 && slices.Max(c.lengths) != 1 {
			return fmt.Sprintf("%s: one alone: %v", c.name, c.lengths)
		}
	}
	return ""
}

// rowSize: bytes of a row of the pictures here, without its filter.
const rowSize = 128

// laid: the picture whose rows, with filters 0, have these bytes.
func laid(t *testing.T, b []byte) image {
	t.Helper()
	m := image{w: 16, h: len(b) / (rowSize + 1), kind: api.RgbAlpha, depth: 16}
	for row := range slices.Chunk(b, rowSize+1) {
		if row[0] != 0 {
			t.Fatalf("a row begins with %d", row[0])
		}
		for i := 1; i < len(row); i += 2 {
			m.pix = append(m.pix, int(row[i])<<8|int(row[i+1]))
		}
	}
	return m
}

// noise: the bytes of so many rows in which no three come twice.
func noise(rows int) []byte {
	r := rand.New(rand.NewSource(int64(rows)))
	seen := map[string]bool{}
	var b []byte
	for len(b) < rows*(rowSize+1) {
		v := byte(1 + r.Intn(255))
		if len(b)%(rowSize+1) == 0 {
			v = 0
		}
		b = append(b, v)
		if i := len(b) - 3; i >= 0 {
			if three := string(b[i:]); seen[three] {
				b = b[:i]
			} else {
				seen[three] = true
			}
		}
	}
	return b
}

// seenOf: the blocks of the picture with these rows.
func seenOf(t *testing.T, b []byte, ch api.Choice) []seen {
	t.Helper()
	r := rand.New(rand.NewSource(1))
	ch.Filters, ch.Cuts = []int{0}, []int{1000}
	s := encoded(t, r, laid(t, b), ch)
	p, _ := pull(streamOf(t, s))
	if string(p.out) != string(b) {
		t.Fatalf("P11: rows %x, want %x", p.out, b)
	}
	return p.seen
}

// tokenAt: the token that begins at a place of the rows' bytes.
func tokenAt(t *testing.T, l []seen, place int) token {
	t.Helper()
	at := 0
	for _, b := range l {
		for _, x := range b.tokens {
			if at == place {
				return x
			}
			at += max(1, x.length)
		}
		at = b.end
	}
	t.Fatalf("P12: no token begins at %d", place)
	return token{}
}

func TestTokenExample(t *testing.T) {
	r := rand.New(rand.NewSource(1))
	bytes := []int{1, 2, 3, 9, 1, 2, 3, 1, 2, 3, 1, 2}
	m := image{w: 11, h: 1, kind: api.Grey, depth: 8}
	left := 0
	for _, v := range bytes[1:] {
		left += v
		m.pix = append(m.pix, left)
	}
	want := []token{{b: 1}, {b: 2}, {b: 3}, {b: 9}, {0, 3, 4}, {0, 5, 3}}
	for kind := 1; kind <= 2; kind++ {
		ch := plain(kind)
		ch.Filters, ch.Search = []int{1}, 2
		p, _ := pull(streamOf(t, encoded(t, r, m, ch)))
		if len(p.seen) != 1 || !slices.Equal(p.seen[0].tokens, want) {
			t.Errorf("P12: the example, kind %d: %v, want %v", kind, p.seen, want)
		}
	}
}

// A distance of the whole window, one less and one beyond it, of each window that these pictures can fill.
func TestTokenWindows(t *testing.T) {
	for window := range 4 {
		size := 256 << window
		for _, far := range []int{size - 1, size, size + 1} {
			if far+20 > 16*(rowSize+1) {
				continue
			}
			for kind := 1; kind <= 2; kind++ {
				b := noise(16)
				copy(b[far+10:], b[10:14])
				ch := plain(kind)
				ch.Window, ch.Search = window, 64
				want := token{b: b[10]}
				if far <= size {
					want = token{0, 4, far}
				}
				if got := tokenAt(t, seenOf(t, b, ch), far+10); got != want {
					t.Errorf("P12: window %d, %d back: %v, want %v", window, far, got, want)
				}
			}
		}
	}
}

// The ends of blocks: fewer than 3 bytes left, copies from blocks ahead, stored ones too, copies that would lead beyond the end.
func TestTokenBlocks(t *testing.T) {
	for _, kinds := range [][]int{{1}, {2}, {0, 1}, {0, 2}, {1, 2}, {2, 1}} {
		for left := 1; left <= 6; left++ {
			b := noise(2)
			copy(b[100-left:], b[40:46])
			ch := plain(0)
			ch.Kinds, ch.Part, ch.Search = kinds, 50, 9
			want := token{b: b[40]}
			if left >= 3 {
				want = token{0, left, 60 - left}
			}
			l := seenOf(t, b, ch)
			if got := tokenAt(t, l, 100-left); got != want {
				t.Errorf("P12: kinds %v, %d bytes left: %v, want %v", kinds, left, got, want)
			}
			if len(l) != 6 || l[1].end != 100 {
				t.Errorf("P12: kinds %v: %d blocks", kinds, len(l))
			}
		}
	}
}

// A copy of 258 and its neighbours, over the place itself.
func TestTokenLongest(t *testing.T) {
	for kind := 1; kind <= 2; kind++ {
		for part, want := range map[int][]token{
			258: {{b: 0}, {0, 257, 1}}, 259: {{b: 0}, {0, 258, 1}}, 260: {{b: 0}, {0, 258, 1}, {b: 0}}, 261: {{b: 0}, {0, 258, 1}, {b: 0}, {b: 0}},
			262: {{b: 0}, {0, 258, 1}, {0, 3, 1}}, 263: {{b: 0}, {0, 258, 1}, {0, 4, 1}}, 519: {{b: 0}, {0, 258, 1}, {0, 258, 1}, {b: 0}, {b: 0}},
		} {
			ch := plain(kind)
			ch.Part, ch.Search = part, 1
			if got := seenOf(t, make([]byte, 16*(rowSize+1)), ch)[0].tokens; !slices.Equal(got, want) {
				t.Errorf("P12: %d noughts: %v, want %v", part, got, want)
			}
		}
	}
}

// sow: lays s at a place or, where a filter would be among it, behind the filter; and tells where.
func sow(b []byte, at int, s string) int {
	if n := at % (rowSize + 1); n == 0 {
		at++
	} else if n+len(s) > rowSize+1 {
		at += rowSize + 2 - n
	}
	copy(b[at:], s)
	return at
}

// Search 0, 1, 2, 63 and 64: the last place that counts has the longest copy, or the one behind it has. The block begins where it is looked for.
func TestTokenSearch(t *testing.T) {
	for _, search := range []int{0, 1, 2, 63, 64} {
		for _, nearer := range []int{max(0, search-1), search} {
			b := noise(16)
			first := sow(b, 5, "abcde")
			at := first + 5
			for k := range nearer {
				at = sow(b, at+1, "abc"+string([]byte{byte(128 + k)})) + 4
			}
			last := at - 4
			at = sow(b, at+1, "abcde")
			want := token{0, 5, at - first}
			if search == 0 {
				want = token{b: 'a'}
			} else if nearer == search {
				want = token{0, 3, at - last}
			}
			for kind := 1; kind <= 2; kind++ {
				ch := plain(kind)
				ch.Window, ch.Search, ch.Part = 7, search, at
				if got := tokenAt(t, seenOf(t, b, ch), at); got != want {
					t.Errorf("P12: Search %d, %d places nearer: %v, want %v", search, nearer, got, want)
				}
			}
		}
	}
}

// Of equals the nearest counts, also where the bound of 258 or the block's end makes them equal.
func TestTokenEquals(t *testing.T) {
	b := noise(3)
	copy(b[20:], "abcdefgh")
	copy(b[40:], "abcdefg")
	copy(b[60:], "abcde")
	copy(b[100:], "abcdefgh")
	for end, want := range map[int]token{103: {0, 3, 40}, 105: {0, 5, 40}, 106: {0, 6, 60}, 107: {0, 7, 60}, 108: {0, 8, 80}, 109: {0, 8, 80}} {
		ch := plain(2)
		ch.Search, ch.Part = 9, end
		if got := tokenAt(t, seenOf(t, b, ch), 100); got != want {
			t.Errorf("P12: a block that ends at %d: %v, want %v", end, got, want)
		}
	}
	// At 1032 stand 259 bytes as at 0; at 516 the first 258 of them.
	b = noise(16)
	copy(b[516:774], b)
	copy(b[1032:1291], b)
	ch := plain(1)
	ch.Window, ch.Search, ch.Part = 3, 2, 1032
	if got, want := tokenAt(t, seenOf(t, b, ch), 1032), (token{0, 258, 516}); got != want {
		t.Errorf("P12: equals of 258: %v, want %v", got, want)
	}
}

// Counts as of Fibonacci's numbers, 1 of them for the end of the block: as long codes as pictures can lead to, and (of more bytes than they have) such as would be longer than 15 bits.
func TestCodesBound(t *testing.T) {
	for values := 10; values <= 20; values++ {
		var s strings.Builder
		a, b := 1, 2
		for v := range values {
			s.WriteString(strings.Repeat(string([]byte{byte(v + 1)}), a))
			a, b = b, a+b
		}
		p, f := pull(string(deflate.Stream([]byte(s.String()), api.Choice{Kinds: []int{2}, Part: s.Len(), Window: 7})))
		if f.err != api.OK || string(p.out) != s.String() || len(p.seen) != 1 {
			t.Fatalf("P12: %d values: %+v, %d bytes of %d", values, f, len(p.out), s.Len())
		}
		if why := wrongCodes(p.seen[0]); why != "" {
			t.Errorf("P12: %d values: %s", values, why)
		}
		if got := slices.Max(p.seen[0].literals); got != min(15, values) {
			t.Errorf("P12: %d values: codes of up to %d bits", values, got)
		}
	}
}

// Codes of distances: none, one alone, two; and a block of each without copies behind one with some.
func TestCodesFew(t *testing.T) {
	for _, c := range []struct {
		name string
		turn func(b []byte)
		want []int // the lengths of those that have a code
	}{
		{"no copy", func([]byte) {}, nil},
		{"one copy", func(b []byte) { copy(b[100:], b[40:46]) }, []int{1}},
		{"two copies of one symbol", func(b []byte) { copy(b[80:], b[20:25]); copy(b[100:], b[40:46]) }, []int{1}},
		{"two symbols", func(b []byte) { copy(b[90:], b[80:85]); copy(b[100:], b[40:46]) }, []int{1, 1}},
		{"three symbols", func(b []byte) { copy(b[30:], b[25:28]); copy(b[90:], b[80:85]); copy(b[100:], b[40:46]) }, []int{2, 2, 1}},
	} {
		b := noise(2)
		c.turn(b)
		ch := plain(2)
		ch.Part, ch.Search = rowSize+1, 1
		l := seenOf(t, b, ch)
		var got []int
		for _, n := range l[0].distances {
			if n > 0 {
				got = append(got, n)
			}
		}
		slices.Sort(got)
		slices.Sort(c.want)
		if !slices.Equal(got, c.want) {
			t.Errorf("P12: %s: codes of distances %v, want %v", c.name, l[0].distances, c.want)
		}
		if slices.Max(l[1].distances) != 0 {
			t.Errorf("P12: %s: the block behind has codes of distances: %v", c.name, l[1].distances)
		}
	}
	ch := plain(2)
	ch.Part = 1
	for k, b := range seenOf(t, noise(1), ch) {
		if n := len(b.literals); n != 257 || b.literals[256] != 1 || len(b.tokens) != 1 || b.literals[b.tokens[0].b] != 1 {
			t.Errorf("P12: block %d of one byte: %v", k, b.literals)
		}
	}
}

// Random pictures bring up all the edges that tokens have.
func TestTokenRandom(t *testing.T) {
	r := rand.New(rand.NewSource(9))
	came := map[string]int{}
	for range 150 {
		m := randomImage(r)
		m.w, m.h, m.pix, m.clear = 9+r.Intn(8), 9+r.Intn(8), nil, ""
		m = m.filled(r)
		ch := randomChoice(r, m.lace, len(m.rowsOfNought()))
		if r.Intn(3) == 0 {
			m.pix, ch.Filters = listOf(len(m.pix), 0), []int{0}
		}
		ch.Kinds = []int{1 + r.Intn(2), 2}
		ch.Part = one(r, 1+r.Intn(9), 100+r.Intn(900), 5000)
		ch.Window = one(r, 0, 0, 1, 7)
		ch.Search = one(r, 1, 2, 64)
		p, _ := pull(streamOf(t, encoded(t, r, m, ch)))
		at := 0
		for _, b := range p.seen {
			from := at
			for _, x := range b.tokens {
				switch {
				case x.length == 0:
					came["a byte"]++
				case x.length > x.distance:
					came["over the place itself"]++
				case at-x.distance < from:
					came["from a block ahead"]++
				}
				if x.length == 258 {
					came["258"]++
				}
				at += max(1, x.length)
				if x.length > 0 && at == b.end && at < len(p.out) && p.out[at] == p.out[at-x.distance] {
					came["up to the block's end"]++
				}
			}
		}
	}
	for _, name := range []string{"a byte", "over the place itself", "from a block ahead", "258", "up to the block's end"} {
		if came[name] < 20 {
			t.Errorf("%s came up %d times only", name, came[name])
		}
	}
}
