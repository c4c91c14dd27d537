package wire

import (
	"bytes"
	"math"
	"strings"
	"testing"

	"cribble/api"
	"cribble/wide"
)

// call is a method of a reader, which tells whether it returned 0 or nothing.
type call struct {
	name string
	zero func(r *Reader) bool
}

// calls are all methods but Err and End, with arguments of all kinds.
func calls() []call {
	return []call{
		{"Num(1)", func(r *Reader) bool { return r.Num(1) == 0 }},
		{"Num(8)", func(r *Reader) bool { return r.Num(8) == 0 }},
		{"Num(0)", func(r *Reader) bool { return r.Num(0) == 0 }},
		{"Wide", func(r *Reader) bool { return r.Wide() == wide.Wide{} }},
		{"Text(10)", func(r *Reader) bool { return r.Text(10) == "" }},
		{"Text(-1)", func(r *Reader) bool { return r.Text(-1) == "" }},
		{"Raw(1)", func(r *Reader) bool { return len(r.Raw(1)) == 0 }},
		{"Raw(0)", func(r *Reader) bool { return len(r.Raw(0)) == 0 }},
		{"Raw(-1)", func(r *Reader) bool { return len(r.Raw(-1)) == 0 }},
		{"Left", func(r *Reader) bool { return r.Left() == 0 }},
		{"Must(true)", func(r *Reader) bool { r.Must(true); return true }},
		{"Must(false)", func(r *Reader) bool { r.Must(false); return true }},
	}
}

// stays tells of every method that answers something, or changes the error, though the error is e.
func stays(t *testing.T, what string, r *Reader, e api.Errno) {
	t.Helper()
	if r.Err() != e || r.End() != e {
		t.Errorf("%s: Err %d, End %d, not %d", what, r.Err(), r.End(), e)
	}
	for _, c := range calls() {
		if !c.zero(r) {
			t.Errorf("%s: %s returns something", what, c.name)
		}
		if r.Err() != e || r.End() != e {
			t.Errorf("%s: after %s: Err %d, End %d, not %d", what, c.name, r.Err(), r.End(), e)
		}
	}
}

// TestReadNum is of P2.2: sizes at and beyond their bounds, and the position behind what was read.
func TestReadNum(t *testing.T) {
	b := []byte("\x01\x23\x45\x67\x89\xab\xcd\xef\xff")
	for _, c := range []struct {
		size int
		want uint64
		left int
	}{
		{1, 0x01, 8},
		{2, 0x0123, 7},
		{5, 0x0123456789, 4},
		{8, 0x0123456789abcdef, 1},
		{0, 0x01, 8},
		{-1, 0x01, 8},
		{math.MinInt, 0x01, 8},
		{9, 0x0123456789abcdef, 1},
		{math.MaxInt, 0x0123456789abcdef, 1},
	} {
		r := From(b)
		if got := r.Num(c.size); got != c.want || r.Left() != c.left || r.Err() != api.OK {
			t.Errorf("Num(%d) = %x, %d left, error %d", c.size, got, r.Left(), r.Err())
		}
	}
}

// TestReadWide is of P2.2.
func TestReadWide(t *testing.T) {
	r := From([]byte("\x01\x02\x03\x04\x05\x06\x07\x08\xf9\x0a\x0b\x0c\x0d\x0e\x0f\x10\x11"))
	want := wide.Wide{Hi: 0x0102030405060708, Lo: 0xf90a0b0c0d0e0f10}
	if got := r.Wide(); got != want || r.Left() != 1 || r.Err() != api.OK {
		t.Errorf("Wide = %x, %d left, error %d", got, r.Left(), r.Err())
	}
}

// TestReadText is of P2.2: the length is judged first, then whether all bytes are there.
func TestReadText(t *testing.T) {
	for _, c := range []struct {
		b    string
		most int
		want string
		e    api.Errno
	}{
		{"\x00\x02ab", 2, "ab", api.OK},
		{"\x00\x02ab", 65535, "ab", api.OK},
		{"\x00\x02ab", math.MaxInt, "ab", api.OK},
		{"\x00\x00", 0, "", api.OK},
		{"\x00\x02ab", 1, "", api.ErrForm},
		{"\x00\x00", -1, "", api.ErrForm},
		{"\x00\x00", math.MinInt, "", api.ErrForm},
		{"\x00\x02a", 2, "", api.ErrShort},
		{"\x00\x02a", 1, "", api.ErrForm},
		{"\x00\x02", 2, "", api.ErrShort},
		{"\x00\x02", 1, "", api.ErrForm},
		{"\x00", 5, "", api.ErrShort},
		{"\x00", -1, "", api.ErrShort},
		{"", 5, "", api.ErrShort},
		{"", -1, "", api.ErrShort},
		{"\xff\xff", 65534, "", api.ErrForm},
		{"\xff\xff", 65535, "", api.ErrShort},
	} {
		r := From([]byte(c.b))
		if got := r.Text(c.most); got != c.want || r.Err() != c.e || r.End() != c.e {
			t.Errorf("Text(%d) of %q = %q, error %d, end %d", c.most, c.b, got, r.Err(), r.End())
		}
	}
}

// TestReadRaw is of P2.2.
func TestReadRaw(t *testing.T) {
	for _, c := range []struct {
		n    int
		want string
		left int
		e    api.Errno
	}{
		{0, "", 3, api.OK},
		{2, "ab", 1, api.OK},
		{3, "abc", 0, api.OK},
		{4, "", 0, api.ErrShort},
		{math.MaxInt, "", 0, api.ErrShort},
		{-1, "", 0, api.ErrForm},
		{math.MinInt, "", 0, api.ErrForm},
	} {
		r := From([]byte("abc"))
		if got := r.Raw(c.n); string(got) != c.want || r.Left() != c.left || r.Err() != c.e {
			t.Errorf("Raw(%d) = %q, %d left, error %d", c.n, got, r.Left(), r.Err())
		}
	}
	r := From(nil)
	if len(r.Raw(0)) != 0 || r.End() != api.OK {
		t.Errorf("Raw(0) of nothing: %d", r.End())
	}
}

// TestMissingBytes is of P2.2: one byte too few is ErrShort, and nothing of what is there is returned.
func TestMissingBytes(t *testing.T) {
	some := bytes.Repeat([]byte{7}, 16)
	for size := range 8 {
		r := From(some[:size])
		if got := r.Num(size + 1); got != 0 || r.Err() != api.ErrShort {
			t.Errorf("Num(%d) of %d bytes = %d, error %d", size+1, size, got, r.Err())
		}
	}
	for n := range 16 {
		r := From(some[:n])
		if got := r.Wide(); got != (wide.Wide{}) || r.Err() != api.ErrShort || r.Left() != 0 {
			t.Errorf("Wide of %d bytes = %v, error %d", n, got, r.Err())
		}
	}
	for _, size := range []int{0, -5} {
		if r := From(nil); r.Num(size) != 0 || r.Err() != api.ErrShort {
			t.Errorf("Num(%d) of nothing: error %d", size, r.Err())
		}
	}
	for _, size := range []int{9, math.MaxInt} {
		if r := From(some[:7]); r.Num(size) != 0 || r.Err() != api.ErrShort {
			t.Errorf("Num(%d) of 7 bytes: error %d", size, r.Err())
		}
	}
}

// TestEndOfReader is of P2.2: bytes left are told by End alone, and reading may go on.
func TestEndOfReader(t *testing.T) {
	r := From([]byte("ab"))
	if r.Left() != 2 || r.Err() != api.OK || r.End() != api.ErrLong {
		t.Errorf("at the start: %d left, error %d, end %d", r.Left(), r.Err(), r.End())
	}
	if r.Num(1) != 'a' || r.Left() != 1 || r.Err() != api.OK || r.End() != api.ErrLong {
		t.Errorf("within: %d left, error %d, end %d", r.Left(), r.Err(), r.End())
	}
	if r.Num(1) != 'b' || r.Left() != 0 || r.Err() != api.OK || r.End() != api.OK {
		t.Errorf("at the end: %d left, error %d, end %d", r.Left(), r.Err(), r.End())
	}
	for _, b := range [][]byte{nil, {}} {
		if r := From(b); r.Left() != 0 || r.Err() != api.OK || r.End() != api.OK {
			t.Errorf("of nothing: %d left, error %d, end %d", r.Left(), r.Err(), r.End())
		}
	}
}

// TestMust is of P2.2.
func TestMust(t *testing.T) {
	r := From([]byte("ab"))
	r.Must(true)
	if r.Err() != api.OK || r.Left() != 2 {
		t.Errorf("after Must(true): error %d, %d left", r.Err(), r.Left())
	}
	r.Must(false)
	if r.Err() != api.ErrForm || r.End() != api.ErrForm {
		t.Errorf("after Must(false): error %d, end %d", r.Err(), r.End())
	}
	r.Must(true)
	if r.Err() != api.ErrForm {
		t.Errorf("after Must(true) again: error %d", r.Err())
	}
}

// TestFirstErrorStays is of P2.2: after each way to fail, every method returns 0 or nothing, and the error is the first one.
func TestFirstErrorStays(t *testing.T) {
	for _, c := range []struct {
		what string
		fail func(r *Reader)
		e    api.Errno
	}{
		{"Must", func(r *Reader) { r.Must(false) }, api.ErrForm},
		{"Raw below 0", func(r *Reader) { r.Raw(-1) }, api.ErrForm},
		{"Raw short", func(r *Reader) { r.Raw(99) }, api.ErrShort},
		{"Text above most", func(r *Reader) { r.Text(3) }, api.ErrForm},
		{"Text short", func(r *Reader) { r.Text(99) }, api.ErrShort},
		{"Text without its length", func(r *Reader) { r.Raw(39); r.Text(99) }, api.ErrShort},
		{"Num short", func(r *Reader) { r.Raw(33); r.Num(8) }, api.ErrShort},
		{"Wide short", func(r *Reader) { r.Raw(25); r.Wide() }, api.ErrShort},
	} {
		// A string of 60 bytes is announced, and bytes are left after every error.
		r := From(append([]byte{0, 60}, bytes.Repeat([]byte{1}, 38)...))
		c.fail(r)
		stays(t, c.what, r, c.e)
	}
}

// TestNoReader is of P2.2 and P1: readers that are nil or that From did not make.
func TestNoReader(t *testing.T) {
	var none *Reader
	stays(t, "nil", none, api.ErrNil)
	var zero Reader
	stays(t, "zero", &zero, api.ErrNil)
	stays(t, "new", new(Reader), api.ErrNil)
}

// TestReaderKeepsItsMemory is of rules 4 and 5: arguments are not kept, results are new and have no room behind them.
func TestReaderKeepsItsMemory(t *testing.T) {
	b := []byte("abcd")
	r := From(b[:3])
	again := *r
	b[1] = 'x'
	first := r.Raw(2)
	if string(first) != "ab" || cap(first) != 2 {
		t.Errorf("Raw: %q with room for %d", first, cap(first))
	}
	first[0] = 'y'
	if got := again.Raw(2); string(got) != "ab" || string(b) != "axcd" {
		t.Errorf("after a result was changed: %q, %q", got, b)
	}
	if r.Num(1) != 'c' || r.Num(1) != 0 || r.Err() != api.ErrShort {
		t.Errorf("behind the end of the argument: error %d", r.Err())
	}
}

// TestCopiedReader is of rule 8: a copy reads on by itself.
func TestCopiedReader(t *testing.T) {
	r := From([]byte("abc"))
	r.Num(1)
	c := *r
	r.Must(false)
	if c.Num(1) != 'b' || c.Text(0) != "" || c.Err() != api.ErrShort || r.Err() != api.ErrForm {
		t.Errorf("errors %d and %d", c.Err(), r.Err())
	}
}

// thing is something to write and to read back.
type thing struct {
	write func(w *Writer)
	back  func(r *Reader) bool
}

func numThing(n uint64, size int) thing {
	return thing{func(w *Writer) { w.Num(n, size) }, func(r *Reader) bool { return r.Num(size) == n }}
}

func wideThing(a wide.Wide) thing {
	return thing{func(w *Writer) { w.Wide(a) }, func(r *Reader) bool { return r.Wide() == a }}
}

func textThing(s string) thing {
	return thing{func(w *Writer) { w.Text(s) }, func(r *Reader) bool { return r.Text(len(s)) == s }}
}

func rawThing(s string) thing {
	return thing{func(w *Writer) { w.Raw([]byte(s)) }, func(r *Reader) bool { return string(r.Raw(len(s))) == s }}
}

func things() []thing {
	l := []thing{
		wideThing(wide.Wide{}), wideThing(wide.Wide{Hi: 1<<64 - 1, Lo: 1<<64 - 1}), wideThing(wide.Wide{Hi: 1 << 63, Lo: 1}),
		textThing(""), textThing("a"), textThing("\x00\xff net.dc1"), textThing(strings.Repeat("z", 300)),
		rawThing("a"), rawThing("\x00\x01\x02"), rawThing(strings.Repeat("\xff", 20)),
	}
	for size := 1; size <= 8; size++ {
		greatest := uint64(1<<64-1) >> (64 - 8*size)
		for _, n := range []uint64{0, 1, greatest / 3, greatest} {
			l = append(l, numThing(n, size))
		}
	}
	return l
}

// TestReadBack is of P2.3: each thing alone, and all of them in one.
func TestReadBack(t *testing.T) {
	var all Writer
	for i, x := range things() {
		var w Writer
		x.write(&w)
		x.write(&all)
		r := From(w.Bytes())
		if !x.back(r) || r.End() != api.OK {
			t.Errorf("thing %d is not read back: %x", i, w.Bytes())
		}
	}
	r := From(all.Bytes())
	for i, x := range things() {
		if !x.back(r) {
			t.Errorf("thing %d of all is not read back", i)
		}
	}
	if r.End() != api.OK {
		t.Errorf("the end of all: %d", r.End())
	}
}

// TestCutBytes is of P2.3: wherever the bytes are cut, reading them ends in an error.
func TestCutBytes(t *testing.T) {
	var w Writer
	for _, x := range things() {
		x.write(&w)
	}
	b := w.Bytes()
	for n := range len(b) {
		r := From(b[:n])
		for _, x := range things() {
			x.back(r)
		}
		if r.Err() != api.ErrShort || r.End() != api.ErrShort {
			t.Errorf("cut to %d of %d bytes: error %d, end %d", n, len(b), r.Err(), r.End())
		}
	}
}

// TestLongestText is of P2.3: a string that is too long comes back as its beginning.
func TestLongestText(t *testing.T) {
	s := strings.Repeat("abc", 30000)
	var w Writer
	r := From(w.Text(s).Num(9, 1).Bytes())
	if r.Text(65535) != s[:65535] || r.Num(1) != 9 || r.End() != api.OK {
		t.Errorf("a string of %d bytes: end %d", len(s), r.End())
	}
}
