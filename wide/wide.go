// Package wide implements 128-bit unsigned integers: see shared/doc/01-wide.md.
package wide

// size is the number of bits of a wide integer.
const size = 128

// Wide is the integer Hi * 2^64 + Lo. Its bits are numbered from 0, the most significant one, to 127.
type Wide struct{ Hi, Lo uint64 }

// Of returns n as a wide integer.
func Of(n uint64) Wide { return Wide{Lo: n} }

// Cmp returns -1 if a is less than b, 0 if they are equal, and 1 otherwise.
func Cmp(a, b Wide) int {
	switch {
	case a == b:
		return 0
	case a.Hi < b.Hi || a.Hi == b.Hi && a.Lo < b.Lo:
		return -1
	}
	return 1
}

// Add returns the sum modulo 2^128, and whether it was 2^128 or more.
func Add(a, b Wide) (Wide, bool) {
	sum := Wide{a.Hi + b.Hi, a.Lo + b.Lo}
	if sum.Lo < a.Lo {
		sum.Hi++
	}
	// A sum that wrapped round has lost 2^128 and gained less, so it is below each of its parts.
	return sum, Cmp(sum, a) < 0
}

// Sub returns the difference modulo 2^128, and whether a was less than b.
func Sub(a, b Wide) (Wide, bool) {
	diff := Wide{a.Hi - b.Hi, a.Lo - b.Lo}
	if a.Lo < b.Lo {
		diff.Hi--
	}
	return diff, Cmp(a, b) < 0
}

// Mul returns the product.
func Mul(a, b uint64) Wide {
	// Products of halves of 32 bits fit into 64 bits.
	aHi, aLo := a>>32, a&(1<<32-1)
	bHi, bLo := b>>32, b&(1<<32-1)
	product := Wide{aHi * bHi, aLo * bLo}
	product, _ = Add(product, Left(Of(aHi*bLo), 32))
	product, _ = Add(product, Left(Of(aLo*bHi), 32))
	return product
}

// Left returns a * 2^n modulo 2^128; a if n is below 1.
func Left(a Wide, n int) Wide {
	switch {
	case n < 1:
		return a
	case n >= size:
		return Wide{}
	case n >= 64:
		return Wide{Hi: a.Lo << (n - 64)}
	}
	return Wide{a.Hi<<n | a.Lo>>(64-n), a.Lo << n}
}

// Right returns a / 2^n, rounded down; a if n is below 1.
func Right(a Wide, n int) Wide {
	switch {
	case n < 1:
		return a
	case n >= size:
		return Wide{}
	case n >= 64:
		return Wide{Lo: a.Hi >> (n - 64)}
	}
	return Wide{a.Hi >> n, a.Lo>>n | a.Hi<<(64-n)}
}

// And returns the bits that both a and b have.
func And(a, b Wide) Wide { return Wide{a.Hi & b.Hi, a.Lo & b.Lo} }

// Or returns the bits that a or b has.
func Or(a, b Wide) Wide { return Wide{a.Hi | b.Hi, a.Lo | b.Lo} }

// Mask returns the integer whose first n bits are 1: no bits if n is below 0, all if n is above 128.
func Mask(n int) Wide {
	if n < 1 {
		// 128 - n would overflow for the least n.
		return Wide{}
	}
	return Left(Wide{1<<64 - 1, 1<<64 - 1}, size-n)
}

// Top returns a with its first n bits only.
func Top(a Wide, n int) Wide { return And(a, Mask(n)) }

// Bit reports whether bit i is 1; false if there is no such bit.
func Bit(a Wide, i int) bool {
	if i < 0 || i >= size {
		return false
	}
	return Right(a, size-1-i).Lo&1 == 1
}

// Same returns the number of leading bits that a and b have in common, at most 128.
func Same(a, b Wide) int {
	for i := range size {
		if Bit(a, i) != Bit(b, i) {
			return i
		}
	}
	return size
}
