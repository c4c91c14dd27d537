package wire

import (
	"bytes"
	"math"
	"strings"
	"testing"

	"cribble/wide"
)

// TestWriteNum is of P2.1: the last bytes of an integer, and sizes at and beyond their bounds.
func TestWriteNum(t *testing.T) {
	const n = 0x0123456789abcdef
	for _, c := range []struct {
		n    uint64
		size int
		want string
	}{
		{258, 2, "\x01\x02"},
		{0, 1, "\x00"},
		{258, 1, "\x02"},
		{258, 8, "\x00\x00\x00\x00\x00\x00\x01\x02"},
		{n, 1, "\xef"},
		{n, 3, "\xab\xcd\xef"},
		{n, 7, "\x23\x45\x67\x89\xab\xcd\xef"},
		{n, 8, "\x01\x23\x45\x67\x89\xab\xcd\xef"},
		{n, 0, "\xef"},
		{n, -1, "\xef"},
		{n, math.MinInt, "\xef"},
		{n, 9, "\x01\x23\x45\x67\x89\xab\xcd\xef"},
		{n, math.MaxInt, "\x01\x23\x45\x67\x89\xab\xcd\xef"},
		{math.MaxUint64, 4, "\xff\xff\xff\xff"},
	} {
		var w Writer
		if got := w.Num(c.n, c.size).Bytes(); string(got) != c.want {
			t.Errorf("Num(%x, %d) writes %x", c.n, c.size, got)
		}
	}
}

// TestWriteWide is of P2.1.
func TestWriteWide(t *testing.T) {
	var w Writer
	w.Wide(wide.Wide{Hi: 0x0102030405060708, Lo: 0x090a0b0c0d0e0f10})
	if got := w.Bytes(); string(got) != "\x01\x02\x03\x04\x05\x06\x07\x08\x09\x0a\x0b\x0c\x0d\x0e\x0f\x10" {
		t.Errorf("Wide writes %x", got)
	}
}

// TestWriteText is of P2.1: strings up to the longest, and the beginning of a longer one.
func TestWriteText(t *testing.T) {
	for _, n := range []int{0, 1, 255, 256, 65534, 65535, 65536, 65537, 131072} {
		s := strings.Repeat("ab", n/2+1)[:n]
		kept := min(n, 65535)
		var w Writer
		want := append([]byte{byte(kept >> 8), byte(kept)}, s[:kept]...)
		if got := w.Text(s).Bytes(); !bytes.Equal(got, want) {
			t.Errorf("Text of %d bytes writes %d bytes, %x first", n, len(got), got[:2])
		}
	}
}

// TestWriteRaw is of P2.1: neither the length nor the spare room of b is written.
func TestWriteRaw(t *testing.T) {
	var w Writer
	b := []byte("abcdef")
	if got := w.Raw(nil).Raw(b[1:3]).Raw([]byte{}).Raw(b[5:]).Bytes(); string(got) != "bcf" {
		t.Errorf("Raw writes %q", got)
	}
}

// TestWriterAppends is of P2.1: every method returns the writer itself, and appends.
func TestWriterAppends(t *testing.T) {
	var w Writer
	if len(w.Bytes()) != 0 {
		t.Errorf("a new writer has %x", w.Bytes())
	}
	steps := []struct {
		does func() *Writer
		adds string
	}{
		{func() *Writer { return w.Num(258, 2) }, "\x01\x02"},
		{func() *Writer { return w.Wide(wide.Of(7)) }, strings.Repeat("\x00", 15) + "\x07"},
		{func() *Writer { return w.Text("ab") }, "\x00\x02ab"},
		{func() *Writer { return w.Raw([]byte("cd")) }, "cd"},
	}
	want := ""
	for i, s := range steps {
		want += s.adds
		if s.does() != &w {
			t.Errorf("step %d does not return the writer", i)
		}
		if got := w.Bytes(); string(got) != want {
			t.Errorf("after step %d: %x", i, got)
		}
	}
}

// TestNilWriter is of P2.1 and P1.
func TestNilWriter(t *testing.T) {
	var w *Writer
	if w.Num(1, 1) != nil || w.Wide(wide.Of(1)) != nil || w.Text("a") != nil || w.Raw([]byte("a")) != nil {
		t.Error("a method of a nil writer returns a writer")
	}
	if len(w.Bytes()) != 0 || len(w.Num(1, 0).Text("a").Bytes()) != 0 {
		t.Error("a nil writer has bytes")
	}
}

// TestWriterKeepsItsMemory is of rules 4 and 5: arguments are not kept, results are new and have no room behind them.
func TestWriterKeepsItsMemory(t *testing.T) {
	var w Writer
	b := []byte("abc")
	w.Raw(b)
	b[0] = 'x'
	first := w.Bytes()
	if string(first) != "abc" || cap(first) != 3 {
		t.Errorf("Bytes: %q with room for %d", first, cap(first))
	}
	first[1] = 'x'
	if got := w.Bytes(); string(got) != "abc" {
		t.Errorf("after a result was changed: %q", got)
	}
	second := w.Bytes()
	w.Num('d', 1)
	if string(second) != "abc" || string(w.Bytes()) != "abcd" || string(b) != "xbc" {
		t.Errorf("after more was written: %q, %q, %q", second, w.Bytes(), b)
	}
}

// TestCopiedWriter is of rule 8: what a copy writes hangs neither on a capacity nor on what the other one writes.
func TestCopiedWriter(t *testing.T) {
	for n := range 70 {
		var w Writer
		w.Raw(bytes.Repeat([]byte{'-'}, n))
		v := w
		w.Num('a', 1)
		u := w
		v.Num('b', 1)
		w = v
		w.Num('c', 1)
		v.Num('d', 1)
		u.Num('e', 1)
		start := strings.Repeat("-", n)
		if string(u.Bytes()) != start+"ae" || string(v.Bytes()) != start+"bd" || string(w.Bytes()) != start+"bc" {
			t.Errorf("behind %d bytes: %q, %q, %q", n, u.Bytes()[n:], v.Bytes()[n:], w.Bytes()[n:])
		}
	}
}
