package chunks

import (
	"testing"

	"pixels/api"
	"pixels/head"
)

func TestWriter(t *testing.T) {
	w := Begin()
	want := sign
	told := func(name, next string) {
		t.Helper()
		want += next
		if got := w.Text(); got != want {
			t.Errorf("P2, P10: %s: %x, want %x", name, got, want)
		}
	}
	told("signature", "")
	w.Head(head.Head{W: 3, H: 16, Depth: 2, Kind: api.Palette, Lace: 1})
	told("IHDR", chunk("IHDR", "\x00\x00\x00\x03\x00\x00\x00\x10\x02\x03\x00\x00\x01"))
	w.Palette([]byte("abcdef"))
	told("PLTE", chunk("PLTE", "abcdef"))
	w.Clear([]byte{0, 255})
	told("tRNS", chunk("tRNS", "\x00\xff"))
	w.Data(nil)
	told("an empty IDAT", chunk("IDAT", ""))
	long := make([]byte, 70000)
	w.Data(long)
	told("a long IDAT", chunk("IDAT", string(long)))
	w.End()
	told("IEND", "\x00\x00\x00\x00IEND\xae\x42\x60\x82")
}

// What is written is a copy: neither the data nor the text is shared.
func TestWriterKeepsNothing(t *testing.T) {
	w := Begin()
	room := []byte("abcdefgh")
	w.Palette(room[:3])
	before := w.Text()
	copy(room, "xxxxxxxx")
	if w.Text() != before || before != sign+chunk("PLTE", "abc") {
		t.Errorf("P1: %x", w.Text())
	}
	w.End()
	if string(room) != "xxxxxxxx" || before != sign+chunk("PLTE", "abc") {
		t.Error("P1: what was handed in, or came out, was written into")
	}
}
