package wide

import (
	"math"
	"math/big"
	"testing"
)

const full = 1<<64 - 1

// halves are the parts of the integers that the tests combine: both ends, and what lies around the words' and half words' edges.
var halves = []uint64{0, 1, 2, 3, 1<<31 - 1, 1 << 31, 1<<32 - 1, 1 << 32, 1<<32 + 1, 1<<63 - 1, 1 << 63, 1<<63 + 1, full - 1, full, 0x0123456789abcdef, 0xf0e1d2c3b4a59687}

// amounts are numbers of bits within the bounds and far beyond them.
func amounts() []int {
	l := []int{math.MinInt, math.MinInt + 1, math.MinInt + 128, math.MinInt / 2, -1000, 1000, math.MaxInt / 2, math.MaxInt - 128, math.MaxInt}
	for n := -130; n <= 260; n++ {
		l = append(l, n)
	}
	return l
}

func samples() []Wide {
	var l []Wide
	for _, hi := range halves {
		for _, lo := range halves {
			l = append(l, Wide{hi, lo})
		}
	}
	return l
}

func bigOf(a Wide) *big.Int {
	n := new(big.Int).SetUint64(a.Hi)
	return n.Lsh(n, 64).Or(n, new(big.Int).SetUint64(a.Lo))
}

// wrapped returns n modulo 2^128, which And gives for negative numbers, too.
func wrapped(n *big.Int) Wide {
	word := new(big.Int).SetUint64(full)
	hi := new(big.Int).Rsh(n, 64)
	return Wide{hi.And(hi, word).Uint64(), new(big.Int).And(n, word).Uint64()}
}

// TestOf is of P1.1.
func TestOf(t *testing.T) {
	for _, n := range halves {
		if got := Of(n); (got != Wide{Hi: 0, Lo: n}) {
			t.Errorf("Of(%d) = %v", n, got)
		}
	}
}

// TestCmpAddSub is of P1.1.
func TestCmpAddSub(t *testing.T) {
	limit := new(big.Int).Lsh(big.NewInt(1), 128)
	for _, a := range samples() {
		for _, b := range samples() {
			x, y := bigOf(a), bigOf(b)
			if got := Cmp(a, b); got != x.Cmp(y) {
				t.Fatalf("Cmp(%v, %v) = %d", a, b, got)
			}
			exact := new(big.Int).Add(x, y)
			if got, over := Add(a, b); got != wrapped(exact) || over != (exact.Cmp(limit) >= 0) {
				t.Fatalf("Add(%v, %v) = %v, %v", a, b, got, over)
			}
			exact = new(big.Int).Sub(x, y)
			if got, under := Sub(a, b); got != wrapped(exact) || under != (exact.Sign() < 0) {
				t.Fatalf("Sub(%v, %v) = %v, %v", a, b, got, under)
			}
		}
	}
}

// TestEdgesOfSums is of P1.1: sums just below 2^128 and at it, differences of 0 and just below it.
func TestEdgesOfSums(t *testing.T) {
	all := Wide{full, full}
	sums := []struct {
		a, b, sum Wide
		over      bool
	}{
		{all, Of(0), all, false},
		{all, Of(1), Of(0), true},
		{all, all, Wide{full, full - 1}, true},
		{Wide{full, 0}, Of(full), all, false},
		{Wide{full, 1}, Of(full), Of(0), true},
		{Wide{1 << 63, 0}, Wide{1 << 63, 0}, Of(0), true},
		{Of(full), Of(1), Wide{1, 0}, false},
	}
	for _, c := range sums {
		if sum, over := Add(c.a, c.b); sum != c.sum || over != c.over {
			t.Errorf("Add(%v, %v) = %v, %v", c.a, c.b, sum, over)
		}
	}
	differences := []struct {
		a, b, diff Wide
		under      bool
	}{
		{Of(0), Of(0), Of(0), false},
		{all, all, Of(0), false},
		{Of(0), Of(1), all, true},
		{Of(0), all, Of(1), true},
		{Wide{1, 0}, Of(1), Of(full), false},
		{Of(full), Wide{1, 0}, all, true},
	}
	for _, c := range differences {
		if diff, under := Sub(c.a, c.b); diff != c.diff || under != c.under {
			t.Errorf("Sub(%v, %v) = %v, %v", c.a, c.b, diff, under)
		}
	}
}

// TestMul is of P1.1.
func TestMul(t *testing.T) {
	if got := Mul(1<<63, 4); (got != Wide{Hi: 2, Lo: 0}) {
		t.Errorf("Mul(2^63, 4) = %v", got)
	}
	if got := Mul(full, full); (got != Wide{Hi: full - 1, Lo: 1}) {
		t.Errorf("Mul of the greatest = %v", got)
	}
	for _, a := range halves {
		for _, b := range halves {
			exact := new(big.Int).Mul(bigOf(Of(a)), bigOf(Of(b)))
			if got := Mul(a, b); bigOf(got).Cmp(exact) != 0 {
				t.Errorf("Mul(%d, %d) = %v", a, b, got)
			}
		}
	}
}

// TestLeftRight is of P1.2.
func TestLeftRight(t *testing.T) {
	for _, a := range samples() {
		for _, n := range amounts() {
			left, right := Wide{}, Wide{}
			switch {
			case n < 1:
				left, right = a, a
			case n <= 127:
				left = wrapped(new(big.Int).Lsh(bigOf(a), uint(n)))
				right = wrapped(new(big.Int).Rsh(bigOf(a), uint(n)))
			}
			if got := Left(a, n); got != left {
				t.Fatalf("Left(%v, %d) = %v", a, n, got)
			}
			if got := Right(a, n); got != right {
				t.Fatalf("Right(%v, %d) = %v", a, n, got)
			}
		}
	}
}

// TestEdgesOfShifts is of P1.2.
func TestEdgesOfShifts(t *testing.T) {
	all := Wide{full, full}
	for _, c := range []struct {
		n           int
		left, right Wide
	}{
		{math.MinInt, all, all},
		{-1, all, all},
		{0, all, all},
		{1, Wide{full, full - 1}, Wide{1<<63 - 1, full}},
		{63, Wide{full, 1 << 63}, Wide{1, full}},
		{64, Wide{full, 0}, Wide{0, full}},
		{65, Wide{full - 1, 0}, Wide{0, 1<<63 - 1}},
		{127, Wide{1 << 63, 0}, Wide{0, 1}},
		{128, Wide{}, Wide{}},
		{math.MaxInt, Wide{}, Wide{}},
	} {
		if Left(all, c.n) != c.left || Right(all, c.n) != c.right {
			t.Errorf("by %d: %v, %v", c.n, Left(all, c.n), Right(all, c.n))
		}
	}
}

// TestAndOr is of P1.2.
func TestAndOr(t *testing.T) {
	for _, a := range samples() {
		for _, b := range samples() {
			if got := And(a, b); bigOf(got).Cmp(new(big.Int).And(bigOf(a), bigOf(b))) != 0 {
				t.Fatalf("And(%v, %v) = %v", a, b, got)
			}
			if got := Or(a, b); bigOf(got).Cmp(new(big.Int).Or(bigOf(a), bigOf(b))) != 0 {
				t.Fatalf("Or(%v, %v) = %v", a, b, got)
			}
		}
	}
}

// TestMask is of P1.2.
func TestMask(t *testing.T) {
	for _, n := range amounts() {
		exact := new(big.Int)
		for i := range 128 {
			if i < n {
				exact.SetBit(exact, 127-i, 1)
			}
		}
		if got := Mask(n); got != wrapped(exact) {
			t.Errorf("Mask(%d) = %v", n, got)
		}
	}
	if Mask(0) != (Wide{}) || Mask(1) != (Wide{1 << 63, 0}) || Mask(127) != (Wide{full, full - 1}) || Mask(128) != (Wide{full, full}) {
		t.Error("Mask at its edges")
	}
}

// TestTop is of P1.2.
func TestTop(t *testing.T) {
	for _, a := range samples() {
		for _, n := range amounts() {
			exact := new(big.Int)
			for i := range 128 {
				if i < n {
					exact.SetBit(exact, 127-i, bigOf(a).Bit(127-i))
				}
			}
			if got := Top(a, n); got != wrapped(exact) || got != And(a, Mask(n)) {
				t.Fatalf("Top(%v, %d) = %v", a, n, got)
			}
		}
	}
}

// TestBit is of P1.2.
func TestBit(t *testing.T) {
	for _, a := range samples() {
		for _, i := range amounts() {
			want := i >= 0 && i <= 127 && bigOf(a).Bit(127-i) == 1
			if Bit(a, i) != want {
				t.Fatalf("Bit(%v, %d) = %v", a, i, !want)
			}
		}
	}
}

// TestSame is of P1.2.
func TestSame(t *testing.T) {
	for _, a := range samples() {
		for _, b := range samples() {
			differ := new(big.Int).Xor(bigOf(a), bigOf(b))
			if got := Same(a, b); got != 128-differ.BitLen() {
				t.Fatalf("Same(%v, %v) = %d", a, b, got)
			}
		}
	}
	for i := range 128 {
		a := Right(Wide{1 << 63, 0}, i)
		if Same(a, Wide{}) != i || Same(Wide{}, a) != i || Same(a, a) != 128 {
			t.Errorf("Same with only bit %d: %d", i, Same(a, Wide{}))
		}
	}
}

// TestInverse is of P1.3: what is added can be subtracted, and the bools tell of the same wrap.
func TestInverse(t *testing.T) {
	for _, a := range samples() {
		for _, b := range samples() {
			sum, over := Add(a, b)
			if back, under := Sub(sum, b); back != a || under != over {
				t.Fatalf("Sub(Add(%v, %v)) = %v, %v", a, b, back, under)
			}
			diff, under := Sub(a, b)
			if back, over := Add(diff, b); back != a || over != under {
				t.Fatalf("Add(Sub(%v, %v)) = %v, %v", a, b, back, over)
			}
		}
	}
}

// TestProductsCompare is of P1.3.
func TestProductsCompare(t *testing.T) {
	type product struct {
		wide  Wide
		exact *big.Int
	}
	var l []product
	for _, a := range halves {
		for _, b := range halves {
			l = append(l, product{Mul(a, b), new(big.Int).Mul(bigOf(Of(a)), bigOf(Of(b)))})
		}
	}
	for _, p := range l {
		for _, q := range l {
			if Cmp(p.wide, q.wide) != p.exact.Cmp(q.exact) {
				t.Fatalf("%v and %v compare unlike %v and %v", p.wide, q.wide, p.exact, q.exact)
			}
		}
	}
}

// TestTopOfSame is of P1.3, and tells that one bit more would not be the same.
func TestTopOfSame(t *testing.T) {
	for _, a := range samples() {
		for _, b := range samples() {
			n := Same(a, b)
			if Top(a, n) != Top(b, n) {
				t.Fatalf("the first %d bits of %v and %v differ", n, a, b)
			}
			if (a != b) != (Top(a, n+1) != Top(b, n+1)) {
				t.Fatalf("%v and %v have more than %d bits in common", a, b, n)
			}
		}
	}
}
