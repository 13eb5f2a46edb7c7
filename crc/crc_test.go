package crc

import (
	"hash/crc32"
	"testing"
)

func sumOf(s string) uint32 {
	state := Start
	for i := range len(s) {
		state = Add(state, s[i])
	}
	return End(state)
}

func TestKnownSums(t *testing.T) {
	for _, c := range []struct {
		s    string
		want uint32
	}{{"", 0}, {"123456789", 0xcbf43926}, {"IEND", 0xae426082}} {
		if got := sumOf(c.s); got != c.want {
			t.Errorf("P2: the sum of %q: %08x, want %08x", c.s, got, c.want)
		}
	}
}

func TestSumsOfTheLibrary(t *testing.T) {
	all := ""
	for i := range 256 {
		one := string([]byte{byte(i)})
		all = one + all + one
		for _, s := range []string{one, all} {
			if got, want := sumOf(s), crc32.ChecksumIEEE([]byte(s)); got != want {
				t.Errorf("P2: the sum of %x: %08x, want %08x", s, got, want)
			}
		}
	}
}
