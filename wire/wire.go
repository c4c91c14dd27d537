// Package wire writes integers and strings as bytes of fixed sizes and reads them: see shared/doc/02-wire.md.
package wire

import (
	"cribble/api"
	"cribble/wide"
)

// longest is the number of bytes of the longest string: its length has two bytes.
const longest = 1<<16 - 1

// Writer appends integers, strings and bytes to what it has written. The zero value is ready to use.
type Writer struct {
	log *log
	n   int
}

// log has the bytes of a writer, and of those copied from it: each of them has its first n bytes.
// It grows only at its end, so that no writer changes what another one has written.
type log struct{ bytes []byte }

// Num writes the last size bytes of n; a size below 1 counts as 1, above 8 as 8.
func (w *Writer) Num(n uint64, size int) *Writer {
	var b [8]byte
	for i := range len(b) {
		b[i] = byte(n >> (56 - 8*i))
	}
	return w.Raw(b[len(b)-limited(size):])
}

// Wide writes a in 16 bytes.
func (w *Writer) Wide(a wide.Wide) *Writer { return w.Num(a.Hi, 8).Num(a.Lo, 8) }

// Text writes the length of s in two bytes, and s; only the first 65535 bytes of a longer one.
func (w *Writer) Text(s string) *Writer {
	s = s[:min(len(s), longest)]
	return w.Num(uint64(len(s)), 2).Raw([]byte(s))
}

// Raw writes the bytes b.
func (w *Writer) Raw(b []byte) *Writer {
	if w == nil {
		return nil
	}
	if w.log == nil || len(w.log.bytes) != w.n {
		// A copy of this writer has gone on in the log: this one needs its own.
		w.log = &log{w.Bytes()}
	}
	w.log.bytes = append(w.log.bytes, b...)
	w.n += len(b)
	return w
}

// Bytes returns everything that was written.
func (w *Writer) Bytes() []byte {
	if w == nil || w.log == nil {
		return nil
	}
	return clone(w.log.bytes[:w.n:w.n])
}

// Reader reads what a Writer wrote. It keeps its first error, and reads nothing after it.
type Reader struct {
	made bool
	rest []byte
	err  api.Errno
}

// From returns a reader of b.
func From(b []byte) *Reader { return &Reader{made: true, rest: clone(b)} }

// Num returns the integer of size bytes at the current position; a size below 1 counts as 1, above 8 as 8.
func (r *Reader) Num(size int) uint64 {
	n := uint64(0)
	for _, b := range r.take(limited(size)) {
		n = n<<8 | uint64(b)
	}
	return n
}

// Wide returns the wide integer at the current position.
func (r *Reader) Wide() wide.Wide {
	a := wide.Wide{}
	for _, b := range r.take(16) {
		a = wide.Or(wide.Left(a, 8), wide.Of(uint64(b)))
	}
	return a
}

// Text returns the string at the current position, which may have at most so many bytes.
func (r *Reader) Text(most int) string {
	n := int(r.Num(2))
	r.Must(n <= most)
	return string(r.take(n))
}

// Raw returns the n bytes at the current position.
func (r *Reader) Raw(n int) []byte {
	r.Must(n >= 0)
	return clone(r.take(n))
}

// Left returns the number of remaining bytes, 0 after an error.
func (r *Reader) Left() int {
	if r.Err() != api.OK {
		return 0
	}
	return len(r.rest)
}

// Must makes ErrForm the reader's error unless is holds.
func (r *Reader) Must(is bool) {
	if !is {
		r.fail(api.ErrForm)
	}
}

// Err returns the first error, or OK; ErrNil if From did not make the reader.
func (r *Reader) Err() api.Errno {
	if r == nil || !r.made {
		return api.ErrNil
	}
	return r.err
}

// End returns the error, ErrLong if bytes are left, or OK.
func (r *Reader) End() api.Errno {
	if r.Left() > 0 {
		return api.ErrLong
	}
	return r.Err()
}

// fail keeps e unless there is an error already.
func (r *Reader) fail(e api.Errno) {
	if r.Err() == api.OK {
		r.err = e
	}
}

// take returns the next n bytes, which are still the reader's own, and advances behind them; nothing after an error.
func (r *Reader) take(n int) []byte {
	if n > r.Left() {
		r.fail(api.ErrShort)
	}
	if r.Err() != api.OK {
		return nil
	}
	taken := r.rest[:n:n]
	r.rest = r.rest[n:]
	return taken
}

// limited returns the number of bytes that an integer of that size has.
func limited(size int) int { return max(1, min(size, 8)) }

// clone returns a copy of b without room behind it.
func clone(b []byte) []byte {
	c := make([]byte, len(b))
	copy(c, b)
	return c
}
