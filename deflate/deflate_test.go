package deflate

import (
	"bytes"
	"compress/zlib"
	"io"
	"math"
	"math/rand"
	"slices"
	"strings"
	"testing"

	"pixels/api"
)

func choice(part, window int, kinds ...int) api.Choice {
	return api.Choice{Kinds: kinds, Part: part, Window: window}
}

func searched(ch api.Choice, search int) api.Choice {
	ch.Search = search
	return ch
}

// packed: bits as they are read, written as noughts and ones, in bytes; blanks stand for nothing.
func packed(s string) string {
	var b []byte
	for i, c := range strings.ReplaceAll(s, " ", "") {
		if i%8 == 0 {
			b = append(b, 0)
		}
		b[i/8] |= byte(c-'0') << (i % 8)
	}
	return string(b)
}

// oneByte: the byte "a" in a block of kind 2: the lengths are 0 97 times, 1, 0 158 times (138 and 20), 1, and 0 for the distances; so the short codes are 0 (2 bits), 1 (2 bits) and 18 (1 bit), and the last that is told of them is the 18th.
var oneByte = "\x08\x1d" + packed(
	"1 01 00000 00000 0111 "+
		"000 000 100 010 000 000 000 000 000 000 000 000 000 000 000 000 000 010 "+
		"0 0110101 11 0 1111111 0 1001000 11 10 "+
		"0 1") + "\x00\x62\x00\x62"

// What a stream is, bit by bit.
func TestBytes(t *testing.T) {
	for _, c := range []struct {
		name string
		data string
		ch   api.Choice
		want string
	}{
		{"stored", "\x00\x07", choice(9, 0, 0), "\x08\x1d\x01\x02\x00\xfd\xff\x00\x07\x00\x09\x00\x08"},
		{"stored, two blocks", "\x00\x07", choice(1, 7, 0), "\x78\x01\x00\x01\x00\xfe\xff\x00\x01\x01\x00\xfe\xff\x07\x00\x09\x00\x08"},
		{"fixed, of no bytes", "", choice(9, 0, 1), "\x08\x1d\x03\x00\x00\x00\x00\x01"},
		{"fixed, one byte of 8 bits", "a", choice(9, 1, 1), "\x18\x19\x4b\x04\x00\x00\x62\x00\x62"},
		{"fixed, one byte of 9 bits", "\xff", choice(9, 2, 1), "\x28\x15\xfb\x0f\x00\x01\x00\x01\x00"},
		{"fixed, then stored", "ab", choice(1, 3, 1, 0), "\x38\x11\x4a\x04\x04\x01\x00\xfe\xff\x62\x01\x26\x00\xc4"},
		{"fixed, a copy of 3 from 3 back", "abcabc", searched(choice(9, 0, 1), 1), "\x08\x1d\x4b\x4c\x4a\x06\x22\x00\x08\x0c\x02\x4d"},
		{"dynamic, one byte", "a", choice(9, 0, 2), oneByte},
	} {
		if got := string(Stream([]byte(c.data), c.ch)); got != c.want {
			t.Errorf("P11, P12: %s: %x, want %x", c.name, got, c.want)
		}
	}
}

// read: what the library reads.
func read(t *testing.T, z []byte, ch api.Choice) []byte {
	t.Helper()
	x, e := zlib.NewReader(bytes.NewReader(z))
	if e != nil {
		t.Fatalf("P11: %+v: %v", ch, e)
	}
	got, e := io.ReadAll(x)
	if e != nil {
		t.Fatalf("P12: %+v: %v behind %d bytes", ch, e, len(got))
	}
	return got
}

func TestLibrary(t *testing.T) {
	r := rand.New(rand.NewSource(1))
	for range 2000 {
		data := make([]byte, r.Intn(1+r.Intn(2079)))
		values := 1 + r.Intn(1+r.Intn(256))
		for i := range data {
			data[i] = byte(r.Intn(values))
			if back := 1 + r.Intn(300); i >= back && r.Intn(9) > 0 {
				data[i] = data[i-back]
			}
		}
		ch := choice(1+r.Intn(1+len(data)), r.Intn(8), r.Intn(3), r.Intn(3), r.Intn(3))
		ch.Search = r.Intn(1 + r.Intn(65))
		z := Stream(data, ch)
		if got := read(t, z, ch); !bytes.Equal(got, data) {
			t.Fatalf("P12: %+v: %d bytes of %d", ch, len(got), len(data))
		}
		if int(z[0]) != 8+16*ch.Window || z[1] > 30 {
			t.Fatalf("P11: window %d: %x", ch.Window, z[:2])
		}
	}
}

// fibonacci: bytes 1, 2, 3, 4, .. as often as 1, 2, 3, 5, .. times; the end of the block is one more that occurs once.
func fibonacci(values int) []byte {
	var data []byte
	a, b := 1, 2
	for v := range values {
		data = append(data, bytes.Repeat([]byte{byte(v + 1)}, a)...)
		a, b = b, a+b
	}
	return data
}

// Counts that without a bound would lead to codes of up to 20 bits, which could not be told.
func TestBound(t *testing.T) {
	for values := 10; values <= 20; values++ {
		data := fibonacci(values)
		ch := choice(len(data), 7, 2)
		z := Stream(data, ch)
		if got := read(t, z, ch); !bytes.Equal(got, data) {
			t.Errorf("P12: %d values: %d bytes of %d", values, len(got), len(data))
		}
	}
}

// The lengths of codes, as they are told, are those very lengths; and no step tells more than its bits can say.
func TestSteps(t *testing.T) {
	r := rand.New(rand.NewSource(2))
	used := map[int]int{}
	for range 3000 {
		var row []byte
		for n := r.Intn(316); len(row) < n; {
			length := byte(r.Intn(16) * r.Intn(2))
			row = append(row, bytes.Repeat([]byte{length}, min(n-len(row), 1+r.Intn(1+r.Intn(200))))...)
		}
		var got []byte
		for _, s := range stepsOf(row) {
			used[s.short]++
			length, times, end := byte(s.short), 1, 1
			switch s.short {
			case 16:
				length, times, end = got[len(got)-1], s.rest+3, 4
			case 17:
				length, times, end = 0, s.rest+3, 8
			case 18:
				length, times, end = 0, s.rest+11, 128
			}
			if s.rest < 0 || s.rest >= end {
				t.Fatalf("P6: %v: %+v", row, s)
			}
			got = append(got, bytes.Repeat([]byte{length}, times)...)
		}
		if !bytes.Equal(got, row) {
			t.Fatalf("P6: %v is told as %v", row, got)
		}
	}
	for short := range 19 {
		if used[short] < 50 {
			t.Errorf("the short code %d came up %d times only", short, used[short])
		}
	}
}

// The edges of what a step can say.
func TestRuns(t *testing.T) {
	for _, c := range []struct {
		length byte
		times  int
		want   []step
	}{
		{0, 1, []step{{0, 0}}}, {0, 2, []step{{0, 0}, {0, 0}}}, {0, 3, []step{{17, 0}}}, {0, 10, []step{{17, 7}}}, {0, 11, []step{{18, 0}}},
		{0, 138, []step{{18, 127}}}, {0, 139, []step{{18, 127}, {0, 0}}}, {0, 141, []step{{18, 127}, {17, 0}}}, {0, 276, []step{{18, 127}, {18, 127}}},
		{9, 1, []step{{9, 0}}}, {9, 3, []step{{9, 0}, {9, 0}, {9, 0}}}, {9, 4, []step{{9, 0}, {16, 0}}}, {9, 7, []step{{9, 0}, {16, 3}}}, {9, 8, []step{{9, 0}, {16, 3}, {9, 0}}},
		{9, 13, []step{{9, 0}, {16, 3}, {16, 3}}}, {15, 10, []step{{15, 0}, {16, 3}, {16, 0}}},
	} {
		if got := stepsOf(bytes.Repeat([]byte{c.length}, c.times)); !slices.Equal(got, c.want) {
			t.Errorf("P6: %d %d times: %v, want %v", c.length, c.times, got, c.want)
		}
	}
}

// Lengths behind the last code are not told, but for the least that there must be.
func TestTold(t *testing.T) {
	for _, c := range []struct {
		l     []byte
		least int
		want  int
	}{
		{[]byte{0}, 1, 1}, {[]byte{0, 0, 0}, 1, 1}, {[]byte{0, 5, 0}, 1, 2}, {[]byte{0, 5, 3}, 1, 3}, {[]byte{1, 0, 0, 0}, 3, 3}, {nil, 1, 0}, {[]byte{0}, 0, 0}, {[]byte{0}, -1, 0},
	} {
		if got := told(c.l, c.least); got != c.want {
			t.Errorf("P6: %v, at least %d: %d, want %d", c.l, c.least, got, c.want)
		}
	}
}

// Choices that are none make no panic, and parts of any size end.
func TestNone(t *testing.T) {
	for _, n := range []int{math.MinInt, -1, 0, 1, 2, 3, 4, 1 << 32, math.MaxInt} {
		Stream([]byte("abc"), choice(n, n))
		Stream([]byte("abc"), choice(n, 0, n, n))
		Stream(nil, choice(n, n, n))
		Stream([]byte("aaaaaaaaa"), searched(choice(n, n, 2, 1), n))
		Stream([]byte("aaaaaaaaa"), searched(choice(n, 0, 1, 2), 64))
	}
	data := []byte("abcdef")
	Stream(data[:3], searched(choice(2, 0, 0, 1, 2), 64))
	if string(data) != "abcdef" {
		t.Error("P1: what was handed in was written into")
	}
}
