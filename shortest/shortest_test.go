package shortest

import (
	"math"
	"math/rand"
	"slices"
	"testing"
)

const most = 15

// total: how many bits all symbols have together.
func total(often []int, lengths []byte) int {
	n := 0
	for s, l := range lengths {
		n += max(0, often[s]) * int(l)
	}
	return n
}

// checked: the total of the lengths for these counts, which are codes of at most so many bits in which none begins another.
func checked(t *testing.T, often []int, limit int) int {
	t.Helper()
	before := slices.Clone(often)
	l := Lengths(often, limit)
	if !slices.Equal(often, before) || len(l) != len(often) {
		t.Fatalf("P1: %v: %d lengths, now %v", before, len(l), often)
	}
	symbols, share := 0, 0
	for s, n := range l {
		if (n > 0) != (often[s] > 0) || int(n) > limit {
			t.Fatalf("P12: %v: symbol %d has %d bits of at most %d", often, s, n, limit)
		}
		if n > 0 {
			symbols++
			share += 1 << (most - n)
		}
	}
	if symbols > 1 && share != 1<<most || symbols == 1 && share != 1<<(most-1) {
		t.Fatalf("P6, P12: %v: lengths %v are not full", often, l)
	}
	return total(often, l)
}

// occurring: the counts above 0, the greatest first.
func occurring(often []int) []int {
	var l []int
	for _, n := range often {
		if n > 0 {
			l = append(l, n)
		}
	}
	slices.Sort(l)
	slices.Reverse(l)
	return l
}

// least: the least total that codes of at most so many bits can have, bit by bit: of the beginnings that there are at a length some become codes, of the most frequent symbols that have none yet, and the others have a bit more.
func least(often []int, limit int) int {
	l := occurring(often)
	n := len(l)
	if n == 1 {
		return l[0]
	}
	rest := make([]int, n+1)
	for i := n - 1; i >= 0; i-- {
		rest[i] = rest[i+1] + l[i]
	}
	const never = math.MaxInt / 2
	// cost[i][open]: of the symbols from i on, with so many beginnings at hand.
	cost := table(n, never)
	for range limit + 1 {
		now := table(n, never)
		for i := range n + 1 {
			for open := range n + 1 {
				for codes := 0; codes <= min(open, n-i); codes++ {
					c := 0
					if i+codes < n {
						c = rest[i+codes] + cost[i+codes][min(n, 2*(open-codes))]
					}
					now[i][open] = min(now[i][open], c)
				}
			}
		}
		cost = now
	}
	return cost[0][1]
}

func table(n, v int) [][]int {
	t := make([][]int, n+1)
	for i := range t {
		t[i] = slices.Repeat([]int{v}, n+1)
	}
	return t
}

// joined: the least total without a bound: the two least are joined, again and again.
func joined(often []int) int {
	l := occurring(often)
	if len(l) == 1 {
		return l[0]
	}
	sum := 0
	for len(l) > 1 {
		n := len(l)
		l = append(l[:n-2], l[n-2]+l[n-1])
		sum += l[n-2]
		slices.Sort(l)
		slices.Reverse(l)
	}
	return sum
}

// tried: the least total of all lengths there are of which the shares of all codes are not more than all.
func tried(often []int, limit int) int {
	best := math.MaxInt
	l := make([]byte, len(often))
	var try func(i, share int)
	try = func(i, share int) {
		if share > 1<<most {
			return
		}
		if i == len(often) {
			best = min(best, total(often, l))
			return
		}
		if often[i] == 0 {
			try(i+1, share)
			return
		}
		for n := 1; n <= limit; n++ {
			l[i] = byte(n)
			try(i+1, share+1<<(most-n))
		}
	}
	try(0, 0)
	return best
}

func TestLengths(t *testing.T) {
	for _, c := range []struct {
		often []int
		limit int
		want  []byte
	}{
		{nil, 15, []byte{}},
		{[]int{0, 0}, 15, []byte{0, 0}},
		{[]int{0, 9, 0}, 15, []byte{0, 1, 0}},
		{[]int{1}, 15, []byte{1}},
		{[]int{1, 1000}, 15, []byte{1, 1}},
		{[]int{1, 0, 4, 2}, 15, []byte{2, 0, 1, 2}},
		{[]int{5, 5, 5, 5}, 15, []byte{2, 2, 2, 2}},
		{[]int{1, 1, 2, 4, 8}, 15, []byte{4, 4, 3, 2, 1}},
		{[]int{1, 1, 2, 4, 8}, 3, []byte{3, 3, 3, 3, 1}},
		{[]int{8, 4, 2, 1, 1}, 4, []byte{1, 2, 3, 4, 4}},
	} {
		if got := Lengths(c.often, c.limit); !slices.Equal(got, c.want) {
			t.Errorf("P12: %v, at most %d bits: %v, want %v", c.often, c.limit, got, c.want)
		}
	}
}

// Against all lengths that there are.
func TestTried(t *testing.T) {
	r := rand.New(rand.NewSource(1))
	for range 3000 {
		limit := 3 + r.Intn(3)
		often := make([]int, 1+r.Intn(6))
		for i := range often {
			often[i] = r.Intn(2 + r.Intn(30))
		}
		often[0]++
		want := tried(often, limit)
		if got := checked(t, often, limit); got != want && len(occurring(often)) > 1 {
			t.Fatalf("P12: %v, at most %d bits: %d bits, want %d", often, limit, got, want)
		}
		if got := least(often, limit); got != want {
			t.Fatalf("the tests do not agree: %v, at most %d bits: %d, %d", often, limit, got, want)
		}
	}
}

// Random counts, few and many alike, and bounds that are met.
func TestLeast(t *testing.T) {
	r := rand.New(rand.NewSource(2))
	met := 0
	for range 400 {
		often := make([]int, 1+r.Intn(40))
		limit := 6 + r.Intn(10)
		for i := range often {
			often[i] = r.Intn(3)
			if r.Intn(2) == 0 {
				often[i] = r.Intn(1 << r.Intn(20))
			}
		}
		often[r.Intn(len(often))] = 1
		want := least(often, limit)
		if got := checked(t, often, limit); got != want {
			t.Fatalf("P12: %v, at most %d bits: %d bits, want %d", often, limit, got, want)
		}
		if want > joined(often) {
			met++
		}
	}
	if met < 50 {
		t.Errorf("the bound was met %d times only", met)
	}
}

// All literals and all distances at once.
func TestMany(t *testing.T) {
	r := rand.New(rand.NewSource(3))
	for _, n := range []int{2, 19, 30, 257, 286, 288} {
		for range 40 {
			often := make([]int, n)
			for i := range often {
				often[i] = 1 + r.Intn(1+r.Intn(1+r.Intn(60)))
			}
			if got, want := checked(t, often, most), joined(often); got != want {
				t.Fatalf("P12: %v: %d bits, want %d", often, got, want)
			}
		}
		same := slices.Repeat([]int{7}, n)
		if got, want := checked(t, same, most), joined(same); got != want {
			t.Errorf("P12: %d alike: %d bits, want %d", n, got, want)
		}
	}
}

// Counts of which each is as great as the two ahead: without a bound there were codes of as many bits as there are counts, but one.
func TestBound(t *testing.T) {
	for n := 2; n <= 40; n++ {
		often := []int{1, 1}
		for len(often) < n {
			often = append(often, often[len(often)-1]+often[len(often)-2])
		}
		for _, limit := range []int{6, 7, 14, 15} {
			got, free := checked(t, often, limit), joined(often)
			if want := least(often, limit); got != want {
				t.Errorf("P12: %d counts, at most %d bits: %d bits, want %d", n, limit, got, want)
			}
			if (got > free) != (n > limit+1) {
				t.Errorf("P12: %d counts, at most %d bits: %d bits, %d without a bound", n, limit, got, free)
			}
			if l := Lengths(often, limit); int(slices.Max(l)) != min(limit, n-1) {
				t.Errorf("P12: %d counts, at most %d bits: %v", n, limit, l)
			}
		}
	}
	doubles := make([]int, 30)
	for i := range doubles {
		doubles[i] = 1 << (29 - i)
	}
	if got, want := checked(t, doubles, most), least(doubles, most); got != want {
		t.Errorf("P12: counts that double: %d bits, want %d", got, want)
	}
}

// Counts and bounds that are none make no panic.
func TestNone(t *testing.T) {
	for _, n := range []int{math.MinInt, -1, 0, 1, 2, math.MaxInt} {
		for _, limit := range []int{math.MinInt, -1, 0, 1, 2, 16, 255, math.MaxInt} {
			Lengths([]int{n, 1, n, 2, n, n}, limit)
			Lengths([]int{n}, limit)
			Lengths(nil, limit)
		}
	}
	if got := Lengths([]int{3, -5, 1}, most); !slices.Equal(got, []byte{1, 0, 1}) {
		t.Errorf("P12: a count below 0: %v", got)
	}
	Lengths(make([]int, 5000), most)
	Lengths(slices.Repeat([]int{1}, 5000), 7)
}
