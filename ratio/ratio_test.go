package ratio

import (
	"math"
	"math/big"
	"math/rand"
	"slices"
	"testing"

	"cribble/wide"
)

const full = math.MaxUint64

// weights returns weights and totals: both ends, and what lies around the edges of the words and of the ratios.
func weights() []uint64 {
	return []uint64{0, 1, 2, 3, 4, 5, 7, 10, 99, 100, 199, 200, 201, 1<<20 - 1, 1 << 20, 1<<20 + 1, 1<<32 - 1, 1 << 32, 1<<44 - 1, 1 << 44, 1<<62 - 1, 1 << 62, 1<<62 + 1, 1<<63 - 1, 1 << 63, 1<<63 + 1, full - 2, full - 1, full, 0x0123456789abcdef}
}

// parts returns values for k, a and b: below 1, at the limits and beyond them.
func parts() []int {
	return []int{math.MinInt, math.MinInt + 1, -(1 << 32), -201, -200, -4, -1, 0, 1, 2, 3, 4, 5, 9, 10, 11, 199, 200, 201, 255, 1 << 10, 1<<20 - 1, 1 << 20, 1<<20 + 1, 1 << 21, 200 << 20, 1 << 32, math.MaxInt / 2, math.MaxInt/2 + 1, math.MaxInt - 1, math.MaxInt}
}

// ofInt returns n as an integer of the library.
func ofInt(n int) *big.Int { return big.NewInt(int64(n)) }

// ofWord returns n as an integer of the library.
func ofWord(n uint64) *big.Int { return new(big.Int).SetUint64(n) }

// ofWide returns n as an integer of the library.
func ofWide(n wide.Wide) *big.Int {
	hi := ofWord(n.Hi)
	return hi.Add(hi.Lsh(hi, 64), ofWord(n.Lo))
}

// times returns a product of the library.
func times(a, b *big.Int) *big.Int { return new(big.Int).Mul(a, b) }

// valid is what the chapter calls a valid measure.
func valid(k, a, b int) bool {
	return k >= 1 && k <= 200 && a >= 1 && a <= b && b <= 1048576 && times(ofInt(k), ofInt(a)).Cmp(ofInt(b)) > 0
}

// heavy is what the chapter calls heavy: b * x is at least a * n.
func heavy(a, b int, x, n uint64) bool {
	return a >= 1 && b >= 1 && times(ofInt(b), ofWord(x)).Cmp(times(ofInt(a), ofWord(n))) >= 0
}

// measure is k, a and b.
type measure struct{ k, a, b int }

// measures returns valid measures: k * a is above b by 1, by a little and by much.
func measures() []measure {
	l := []measure{{10, 1, 4}, {2, 1, 1}, {200, 1, 1}, {200, 1, 199}, {200, 1 << 20, 1 << 20}, {2, 1 << 20, 1 << 20}, {200, 5243, 1 << 20}, {2, 1<<19 + 1, 1 << 20}, {3, 1, 2}, {3, 2, 3}, {100, 1, 10}, {199, 3, 500}, {7, 3, 20}}
	r := rand.New(rand.NewSource(12))
	for len(l) < 200 {
		m := measure{1 + r.Intn(200), 0, 1 + r.Intn(1<<r.Intn(21))}
		m.a = m.b/m.k + 1 + r.Intn(2)*r.Intn(m.b)
		if valid(m.k, m.a, m.b) {
			l = append(l, m)
		}
	}
	return l
}

// TestRight is of P12.1.
func TestRight(t *testing.T) {
	found := 0
	for _, k := range parts() {
		for _, a := range parts() {
			for _, b := range parts() {
				want := valid(k, a, b)
				if Right(k, a, b) != want {
					t.Errorf("Right(%d, %d, %d): %v", k, a, b, !want)
				}
				if want {
					found++
				}
			}
		}
	}
	if found < 100 {
		t.Errorf("only %d measures are valid", found)
	}
}

// TestRightEdges is of P12.1: each of k, a and b below 1, at its limit and one above it; k * a equal to b, and one more.
func TestRightEdges(t *testing.T) {
	for _, c := range []struct {
		k, a, b int
		want    bool
	}{
		{10, 1, 4, true}, {0, 1, 4, false}, {-1, 1, 4, false}, {math.MinInt, 1, 4, false}, {200, 1, 4, true}, {201, 1, 4, false}, {math.MaxInt, 1, 4, false},
		{10, 0, 4, false}, {10, -1, 4, false}, {10, 4, 4, true}, {10, 5, 4, false}, {10, math.MaxInt, 4, false}, {10, math.MinInt, 4, false},
		{10, 1, 0, false}, {10, 0, 0, false}, {10, 1, -1, false}, {10, -1, -1, false}, {10, 1, 1, true}, {200, 1 << 20, 1 << 20, true}, {200, 1 << 20, 1<<20 + 1, false}, {200, 1<<20 + 1, 1<<20 + 1, false}, {10, 1, math.MaxInt, false}, {10, math.MaxInt, math.MaxInt, false},
		{4, 1, 4, false}, {5, 1, 4, true}, {3, 1, 4, false}, {1, 1, 1, false}, {2, 1, 1, true}, {1, 4, 4, false}, {200, 1, 200, false}, {200, 1, 199, true}, {200, 1, 201, false}, {2, 1 << 19, 1 << 20, false}, {2, 1<<19 + 1, 1 << 20, true}, {2, 1<<19 - 1, 1 << 20, false}, {200, 5242, 1 << 20, false}, {200, 5243, 1 << 20, true}, {3, 5, 14, true}, {3, 5, 15, false},
	} {
		if Right(c.k, c.a, c.b) != c.want {
			t.Errorf("Right(%d, %d, %d): %v", c.k, c.a, c.b, !c.want)
		}
	}
}

// TestShare is of P12.1.
func TestShare(t *testing.T) {
	for _, k := range parts() {
		for _, n := range weights() {
			want := new(big.Int)
			if k >= 1 {
				want.Div(ofWord(n), ofInt(k))
			}
			if got := Share(k, n); ofWord(got).Cmp(want) != 0 {
				t.Errorf("Share(%d, %d): %d, not %v", k, n, got, want)
			}
		}
	}
	if Share(3, 10) != 3 || Share(1, full) != full || Share(2, full) != 1<<63-1 || Share(10, 9) != 0 || Share(10, 10) != 1 || Share(0, 10) != 0 || Share(-1, 10) != 0 || Share(201, 402) != 2 {
		t.Error("Share at its edges")
	}
}

// TestHeavy is of P12.1.
func TestHeavy(t *testing.T) {
	for _, a := range parts() {
		for _, b := range parts() {
			for _, n := range weights() {
				for _, x := range weights() {
					if got := Heavy(a, b, x, n); got != heavy(a, b, x, n) {
						t.Fatalf("Heavy(%d, %d, %d, %d): %v", a, b, x, n, got)
					}
				}
			}
		}
	}
	if !Heavy(1, 3, 4, 10) || Heavy(1, 3, 3, 10) || !Heavy(1, 4, 0, 0) || !Heavy(1, 1, full, full) || Heavy(1, 1, full-1, full) || !Heavy(1, 2, 1<<63, full) || Heavy(1, 2, 1<<63-1, full) {
		t.Error("Heavy at its edges")
	}
	if Heavy(0, 4, 1, 1) || Heavy(1, 0, 1, 1) || Heavy(0, 0, 0, 0) || Heavy(-1, 4, 1, 1) || Heavy(1, -4, 1, 1) || Heavy(-1, -4, 1, 1) || !Heavy(5, 4, 5, 4) || Heavy(5, 4, 4, 4) {
		t.Error("Heavy of what is no ratio, or above 1")
	}
}

// TestLeast is of P12.1: the least weight is heavy, and one less is not.
func TestLeast(t *testing.T) {
	for _, a := range parts() {
		for _, b := range parts() {
			for _, n := range weights() {
				got := Least(a, b, n)
				switch {
				case a < 1 || a > b:
					if got != 0 {
						t.Errorf("Least(%d, %d, %d): %d", a, b, n, got)
					}
				case !heavy(a, b, got, n) || got > 0 && heavy(a, b, got-1, n):
					t.Errorf("Least(%d, %d, %d): %d", a, b, n, got)
				}
			}
		}
	}
	for _, c := range []struct {
		a, b int
		n    uint64
		want uint64
	}{
		{1, 3, 10, 4}, {1, 3, 9, 3}, {1, 3, 0, 0}, {1, 3, 1, 1}, {1, 1, full, full}, {1, 2, full, 1 << 63}, {1 << 20, 1 << 20, full, full}, {1<<20 - 1, 1 << 20, full, full - 1<<44 + 1}, {1, 1 << 20, full, 1 << 44}, {1, 1 << 20, 1, 1},
		{math.MaxInt, math.MaxInt, full, full}, {0, 3, 10, 0}, {-1, 3, 10, 0}, {4, 3, 10, 0}, {3, 3, 10, 10}, {1, 0, 10, 0}, {1, -1, 10, 0}, {0, 0, 10, 0}, {-3, -1, 10, 0},
	} {
		if got := Least(c.a, c.b, c.n); got != c.want {
			t.Errorf("Least(%d, %d, %d): %d, not %d", c.a, c.b, c.n, got, c.want)
		}
	}
}

// TestMost is of P12.1.
func TestMost(t *testing.T) {
	for _, k := range parts() {
		for _, a := range parts() {
			for _, b := range parts() {
				want := new(big.Int)
				if valid(k, a, b) {
					below := times(ofInt(a), ofInt(k))
					want.Div(times(ofInt(b), ofInt(k)), below.Sub(below, ofInt(b)))
				}
				if got := Most(k, a, b); ofInt(got).Cmp(want) != 0 {
					t.Errorf("Most(%d, %d, %d): %d, not %v", k, a, b, got, want)
				}
			}
		}
	}
	if Most(10, 1, 4) != 6 || Most(5, 1, 4) != 20 || Most(4, 1, 4) != 0 || Most(2, 1, 1) != 2 || Most(200, 1, 1) != 1 || Most(200, 1, 199) != 39800 || Most(201, 1, 4) != 0 || Most(200, 5243, 1<<20) != 200*(1<<20)/24 || Most(2, 1<<19+1, 1<<20) != 1<<20 {
		t.Error("Most at its edges")
	}
}

// TestDiv is of P12.2.
func TestDiv(t *testing.T) {
	for _, hi := range weights() {
		for _, lo := range weights() {
			x := wide.Wide{Hi: hi, Lo: lo}
			for _, d := range weights() {
				quotient, rest := new(big.Int), new(big.Int)
				if d > 0 {
					quotient.QuoRem(ofWide(x), ofWord(d), rest)
				}
				if q, r := Div(x, d); ofWide(q).Cmp(quotient) != 0 || ofWord(r).Cmp(rest) != 0 {
					t.Fatalf("Div(%v, %d): %v, %d; not %v, %v", x, d, q, r, quotient, rest)
				}
			}
		}
	}
}

// TestDivEdges is of P12.2: by 0, 1 and the greatest integer.
func TestDivEdges(t *testing.T) {
	all := wide.Wide{Hi: full, Lo: full}
	for _, c := range []struct {
		x    wide.Wide
		d    uint64
		q    wide.Wide
		rest uint64
	}{
		{wide.Of(7), 0, wide.Wide{}, 0}, {all, 0, wide.Wide{}, 0}, {wide.Wide{}, 0, wide.Wide{}, 0}, {wide.Wide{}, 5, wide.Wide{}, 0},
		{wide.Of(full), 1, wide.Of(full), 0}, {all, 1, all, 0}, {wide.Of(7), 2, wide.Of(3), 1},
		{wide.Of(full), full, wide.Of(1), 0}, {wide.Of(full - 1), full, wide.Of(0), full - 1}, {all, full, wide.Wide{Hi: 1, Lo: 1}, 0}, {wide.Wide{Hi: 1}, full, wide.Of(1), 1}, {wide.Wide{Hi: full - 1, Lo: full}, full, wide.Of(full), full - 1},
		{wide.Wide{Hi: 3}, 5, wide.Of(11068046444225730969), 3}, {wide.Wide{Hi: 5}, 5, wide.Wide{Hi: 1}, 0},
	} {
		if q, rest := Div(c.x, c.d); q != c.q || rest != c.rest {
			t.Errorf("Div(%v, %d): %v, %d; not %v, %d", c.x, c.d, q, rest, c.q, c.rest)
		}
	}
}

// TestSum is of P12.2.
func TestSum(t *testing.T) {
	if Sum(nil) != (wide.Wide{}) || Sum([]uint64{}) != (wide.Wide{}) || Sum([]uint64{0}) != (wide.Wide{}) || Sum([]uint64{full}) != wide.Of(full) || Sum([]uint64{full, 1}) != (wide.Wide{Hi: 1}) || Sum([]uint64{1, full, full}) != (wide.Wide{Hi: 1, Lo: full}) {
		t.Error("Sum at its edges")
	}
	many := slices.Repeat([]uint64{full}, 100000)
	if got := Sum(many); ofWide(got).Cmp(times(ofWord(full), ofInt(100000))) != 0 {
		t.Errorf("the sum of 100000 of the greatest integer: %v", got)
	}
	if got := Sum(many[:3:3]); got != (wide.Wide{Hi: 2, Lo: full - 2}) {
		t.Errorf("the sum of 3 of the greatest integer: %v", got)
	}
	r := rand.New(rand.NewSource(121))
	for range 500 {
		var l []uint64
		want := new(big.Int)
		for range r.Intn(50) {
			n := r.Uint64() >> r.Intn(64)
			l = append(l, n)
			want.Add(want, ofWord(n))
		}
		before := slices.Clone(l)
		if got := Sum(l); ofWide(got).Cmp(want) != 0 || !slices.Equal(l, before) {
			t.Errorf("Sum(%v): %v, not %v", before, got, want)
		}
	}
}

// clipped is what the chapter says of Clip.
func clipped(n uint64, plus, minus wide.Wide) *big.Int {
	x := ofWord(n)
	x.Add(x, ofWide(plus)).Sub(x, ofWide(minus))
	switch {
	case x.Sign() < 0:
		return new(big.Int)
	case x.Cmp(ofWord(n)) > 0:
		return ofWord(n)
	}
	return x
}

// TestClip is of P12.2.
func TestClip(t *testing.T) {
	var l []wide.Wide
	words := []uint64{0, 1, 2, 9, 10, 11, 1<<62 - 1, 1 << 62, 1 << 63, full - 1, full}
	for _, hi := range words {
		for _, lo := range words {
			l = append(l, wide.Wide{Hi: hi, Lo: lo})
		}
	}
	for _, n := range words {
		for _, plus := range l {
			for _, minus := range l {
				if got := Clip(n, plus, minus); ofWord(got).Cmp(clipped(n, plus, minus)) != 0 {
					t.Fatalf("Clip(%d, %v, %v): %d, not %v", n, plus, minus, got, clipped(n, plus, minus))
				}
			}
		}
	}
}

// TestClipEdges is of P12.2: below 0, 0, n and above n, and n + plus beyond 128 bits.
func TestClipEdges(t *testing.T) {
	all := wide.Wide{Hi: full, Lo: full}
	for _, c := range []struct {
		n           uint64
		plus, minus wide.Wide
		want        uint64
	}{
		{10, wide.Of(1), wide.Of(4), 7}, {10, wide.Of(4), wide.Of(1), 10}, {10, wide.Of(4), wide.Of(4), 10}, {10, wide.Of(4), wide.Of(5), 9}, {10, wide.Of(0), wide.Of(10), 0}, {10, wide.Of(0), wide.Of(9), 1}, {10, wide.Of(0), wide.Of(11), 0}, {10, wide.Of(1), wide.Of(11), 0}, {10, wide.Of(1), wide.Of(12), 0}, {10, wide.Of(0), all, 0}, {10, wide.Wide{}, wide.Wide{Hi: 1}, 0}, {10, wide.Wide{}, wide.Wide{Hi: 1, Lo: 3}, 0},
		{0, wide.Wide{}, wide.Wide{}, 0}, {0, wide.Of(1), wide.Of(0), 0}, {0, wide.Of(0), wide.Of(1), 0}, {0, all, all, 0},
		{full, all, all, full}, {full, all, wide.Wide{}, full}, {full, all, wide.Of(1), full}, {full, wide.Wide{Hi: full}, all, 0}, {full, wide.Wide{Hi: full, Lo: 1}, all, 1}, {1, all, wide.Wide{Hi: full, Lo: full - 1}, 1}, {1, wide.Wide{Hi: full, Lo: full - 1}, all, 0}, {2, wide.Wide{Hi: full, Lo: full - 1}, all, 1}, {full, wide.Of(1), wide.Wide{Hi: 1}, 0}, {full, wide.Of(2), wide.Wide{Hi: 1}, 1},
	} {
		if got := Clip(c.n, c.plus, c.minus); got != c.want {
			t.Errorf("Clip(%d, %v, %v): %d, not %d", c.n, c.plus, c.minus, got, c.want)
		}
	}
}

// TestHeavyFromLeastOn is of P12.3.
func TestHeavyFromLeastOn(t *testing.T) {
	for _, m := range measures() {
		for _, n := range weights() {
			least := Least(m.a, m.b, n)
			for _, x := range append(weights(), least, least+1, least-1) {
				if Heavy(m.a, m.b, x, n) != (x >= least) {
					t.Errorf("%d of %d by %d/%d, where the least is %d", x, n, m.a, m.b, least)
				}
			}
			if n > 0 && Heavy(m.a, m.b, Share(m.k, n), n) {
				t.Errorf("a share of %d, %d, is heavy by %+v", n, Share(m.k, n), m)
			}
		}
	}
}

// TestHeavySums is of P12.3: what is heavy in its total adds up to what is heavy in the sum of the totals.
func TestHeavySums(t *testing.T) {
	r := rand.New(rand.NewSource(123))
	for _, m := range measures() {
		for range 200 {
			n1, n2 := r.Uint64()>>(2+r.Intn(62)), r.Uint64()>>(2+r.Intn(62))
			x1, x2 := Least(m.a, m.b, n1), Least(m.a, m.b, n2)
			if !Heavy(m.a, m.b, x1+x2, n1+n2) {
				t.Errorf("%d of %d and %d of %d by %d/%d", x1, n1, x2, n2, m.a, m.b)
			}
			if least := Least(m.a, m.b, n1+n2); least > x1+x2 {
				t.Errorf("the least of %d and %d by %d/%d is above the sum of the leasts", n1, n2, m.a, m.b)
			}
		}
	}
}

// TestMostIsEnough is of P12.4: so many weights of n can be at least n * (a/b - 1/k), and one more cannot.
func TestMostIsEnough(t *testing.T) {
	for _, m := range measures() {
		// The least weight is a quotient: n * (a * k - b) of b * k.
		above := new(big.Int).Sub(times(ofInt(m.a), ofInt(m.k)), ofInt(m.b))
		below := times(ofInt(m.b), ofInt(m.k))
		most := Most(m.k, m.a, m.b)
		for _, n := range weights() {
			if n == 0 {
				continue
			}
			all := times(ofWord(n), below)
			if times(ofInt(most), times(ofWord(n), above)).Cmp(all) > 0 {
				t.Errorf("%d weights are more than %d by %+v", most, n, m)
			}
			if times(ofInt(most+1), times(ofWord(n), above)).Cmp(all) <= 0 {
				t.Errorf("%d weights are not more than %d by %+v", most+1, n, m)
			}
		}
	}
}

// TestHandmade is of P1: whatever the arguments, each function returns.
func TestHandmade(t *testing.T) {
	r := rand.New(rand.NewSource(122))
	edges := parts()
	pick := func() int { return edges[r.Intn(len(edges))] + r.Intn(3) - 1 }
	for range 100000 {
		k, a, b := pick(), pick(), pick()
		x, n := r.Uint64()>>r.Intn(64), r.Uint64()>>r.Intn(64)
		if Right(k, a, b) != (Most(k, a, b) > 0) || Right(k, a, b) != valid(k, a, b) {
			t.Fatalf("Right or Most of %d, %d, %d", k, a, b)
		}
		if Heavy(a, b, x, n) != heavy(a, b, x, n) || a >= 1 && a <= b && heavy(a, b, x, n) != (x >= Least(a, b, n)) {
			t.Fatalf("Heavy or Least of %d, %d, %d, %d", a, b, x, n)
		}
		plus, minus := wide.Wide{Hi: r.Uint64() >> r.Intn(65), Lo: r.Uint64()}, wide.Wide{Hi: r.Uint64() >> r.Intn(65), Lo: r.Uint64()}
		if got := Clip(n, plus, minus); ofWord(got).Cmp(clipped(n, plus, minus)) != 0 {
			t.Fatalf("Clip(%d, %v, %v): %d", n, plus, minus, got)
		}
		if q, rest := Div(plus, x); x > 0 && (rest >= x || ofWide(plus).Cmp(new(big.Int).Add(times(ofWide(q), ofWord(x)), ofWord(rest))) != 0) {
			t.Fatalf("Div(%v, %d): %v, %d", plus, x, q, rest)
		}
	}
}
