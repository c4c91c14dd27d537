package num

import (
	"math"
	"math/big"
	"math/rand"
	"regexp"
	"strconv"
	"strings"
	"testing"

	"cribble/api"
	"cribble/wide"
)

// spelled is the definition of a text, apart from the parser.
var spelled = regexp.MustCompile(`\A(0|[1-9][0-9]*)\z`)

const (
	most     = "340282366920938463463374607431768211455" // 2^128 - 1
	tooGreat = "340282366920938463463374607431768211456"
)

// top is 2^128 - 1.
var top = wide.Wide{Hi: math.MaxUint64, Lo: math.MaxUint64}

// bigOf returns a as an integer of the library.
func bigOf(a wide.Wide) *big.Int {
	n := new(big.Int).SetUint64(a.Hi)
	n.Lsh(n, 64)
	return n.Or(n, new(big.Int).SetUint64(a.Lo))
}

// wideOf returns n, which is at least 0 and below 2^128, as a wide integer.
func wideOf(n *big.Int) wide.Wide {
	low := new(big.Int).And(n, new(big.Int).SetUint64(math.MaxUint64))
	return wide.Wide{Hi: new(big.Int).Rsh(n, 64).Uint64(), Lo: low.Uint64()}
}

// samples returns wide integers about every power of 2 and of 10, and some from everywhere.
func samples() []wide.Wide {
	l := []wide.Wide{{}, top}
	limit := bigOf(top)
	add := func(n *big.Int) {
		for d := int64(-2); d <= 2; d++ {
			v := new(big.Int).Add(n, big.NewInt(d))
			if v.Sign() >= 0 && v.Cmp(limit) <= 0 {
				l = append(l, wideOf(v))
			}
		}
	}
	for i := range int64(129) {
		add(new(big.Int).Exp(big.NewInt(2), big.NewInt(i), nil))
	}
	for i := range int64(39) {
		for d := range int64(9) {
			n := new(big.Int).Exp(big.NewInt(10), big.NewInt(i), nil)
			add(n.Mul(n, big.NewInt(d+1)))
		}
	}
	source := rand.New(rand.NewSource(6))
	for range 2000 {
		a := wide.Wide{Hi: source.Uint64(), Lo: source.Uint64()}
		l = append(l, a, wide.Right(a, source.Intn(128)))
	}
	return l
}

// wrongTexts returns strings that are not texts of integers.
func wrongTexts() []string {
	return []string{
		"", " ", "  ", "00", "000", "01", "007", "0000000000000000000000000000000000000000000", "0" + most, "00" + tooGreat, "018446744073709551616", strings.Repeat("0", 10000), "0" + strings.Repeat("9", 10000),
		"+", "-", "+0", "-0", "+1", "-1", "--1", "1-", "1+", "+" + most, "-" + tooGreat,
		" 1", "1 ", "1 2", "\t1", "1\n", "\n", "1\x00", "\x001", "1\r\n",
		"a", "A", "f", "1a", "a1", "0x1", "0X1", "0b1", "0o7", "1e1", "1E1", "1_000", "_1", "1_", "1,000", "1.0", "1.", ".1", "1/2", "1:2", ":", "/", "9:", "/9", "NaN", "Inf", "ten",
		"\u0661", "\u0660", "\uff11", "1\u0662", "\u00b2", "1\u00a0", "\u00e9", "\xff", "1\xff", "\x80", "\xb0", "\xb1", "1\xb2",
		strings.Repeat("9", 10000) + " ", strings.Repeat("9", 10000) + "a", "a" + strings.Repeat("9", 10000), strings.Repeat("9", 50) + "-" + strings.Repeat("9", 50),
	}
}

// TestPrint is of P6.1.
func TestPrint(t *testing.T) {
	want := map[uint64]string{0: "0", 1: "1", 9: "9", 10: "10", 99: "99", 100: "100", 101: "101", 255: "255", 1000000: "1000000", 1 << 62: "4611686018427387904", math.MaxUint64 - 1: "18446744073709551614", math.MaxUint64: "18446744073709551615"}
	for n, s := range want {
		if got := Print(n); got != s {
			t.Errorf("Print(%d): %q", n, got)
		}
	}
	for _, a := range samples() {
		if got := Print(a.Lo); got != strconv.FormatUint(a.Lo, 10) {
			t.Errorf("Print(%d): %q", a.Lo, got)
		}
	}
}

// TestParse is of P6.1: integers up to most, and above.
func TestParse(t *testing.T) {
	want := []struct {
		s    string
		most uint64
		n    uint64
		e    api.Errno
	}{
		{"0", 0, 0, api.OK}, {"1", 0, 0, api.ErrRange}, {"9", 0, 0, api.ErrRange}, {"10", 0, 0, api.ErrRange}, {"0", math.MaxUint64, 0, api.OK},
		{"1", 1, 1, api.OK}, {"2", 1, 0, api.ErrRange}, {"255", 255, 255, api.OK}, {"256", 255, 0, api.ErrRange}, {"300", 255, 0, api.ErrRange}, {"254", 255, 254, api.OK}, {"1000", 1000, 1000, api.OK}, {"1001", 1000, 0, api.ErrRange},
		{"18446744073709551615", math.MaxUint64, math.MaxUint64, api.OK}, {"18446744073709551614", math.MaxUint64, math.MaxUint64 - 1, api.OK}, {"18446744073709551616", math.MaxUint64, 0, api.ErrRange}, {"18446744073709551617", math.MaxUint64, 0, api.ErrRange},
		{"18446744073709551615", math.MaxUint64 - 1, 0, api.ErrRange}, {"18446744073709551614", math.MaxUint64 - 1, math.MaxUint64 - 1, api.OK}, {"18446744073709551616", 0, 0, api.ErrRange}, {"18446744073709551616", 255, 0, api.ErrRange}, {"36893488147419103232", math.MaxUint64, 0, api.ErrRange},
		{"4611686018427387904", api.MaxTotal, api.MaxTotal, api.OK}, {"4611686018427387905", api.MaxTotal, 0, api.ErrRange},
		{most, math.MaxUint64, 0, api.ErrRange}, {tooGreat, math.MaxUint64, 0, api.ErrRange}, {tooGreat, 0, 0, api.ErrRange}, {"340282366920938463463374607431768211457", 255, 0, api.ErrRange}, {"680564733841876926926749214863536422912", 255, 0, api.ErrRange},
		{strings.Repeat("9", 40), 255, 0, api.ErrRange}, {"1" + strings.Repeat("0", 10000), 255, 0, api.ErrRange}, {strings.Repeat("9", 100000), math.MaxUint64, 0, api.ErrRange},
	}
	for _, c := range want {
		if n, e := Parse(c.s, c.most); n != c.n || e != c.e {
			t.Errorf("Parse(%q, %d): %d, %v, want %d, %v", c.s, c.most, n, e, c.n, c.e)
		}
	}
}

// TestWrong is of P6.1 and P6.2: what is not a text of any integer is named ahead of what is too large.
func TestWrong(t *testing.T) {
	for _, s := range wrongTexts() {
		for _, m := range []uint64{0, 1, 255, math.MaxUint64} {
			if n, e := Parse(s, m); n != 0 || e != api.ErrForm {
				t.Errorf("Parse(%q, %d): %d, %v", s, m, n, e)
			}
		}
		if a, e := ParseWide(s); a != (wide.Wide{}) || e != api.ErrForm {
			t.Errorf("ParseWide(%q): %v, %v", s, a, e)
		}
	}
}

// TestBytesOfTexts is of P6.1 and P6.2: each byte, alone, first and last.
func TestBytesOfTexts(t *testing.T) {
	for b := range 256 {
		for _, s := range []string{string([]byte{byte(b)}), string([]byte{byte(b), '1'}), string([]byte{'1', byte(b)}), string([]byte{'1', byte(b), '1'})} {
			_, e := Parse(s, math.MaxUint64)
			_, f := ParseWide(s)
			if want := spelled.MatchString(s); (e == api.OK) != want || (f == api.OK) != want {
				t.Errorf("%q: Parse %v, ParseWide %v", s, e, f)
			}
		}
	}
}

// TestWide is of P6.2.
func TestWide(t *testing.T) {
	want := map[wide.Wide]string{{}: "0", {Lo: 7}: "7", {Lo: 10}: "10", {Lo: math.MaxUint64}: "18446744073709551615", {Hi: 1}: "18446744073709551616", {Hi: 1, Lo: 1}: "18446744073709551617", {Hi: 1 << 63}: "170141183460469231731687303715884105728", {Hi: math.MaxUint64}: "340282366920938463444927863358058659840", top: most}
	for a, s := range want {
		if got := Wide(a); got != s {
			t.Errorf("Wide(%v): %q", a, got)
		}
	}
	for _, a := range samples() {
		if got, s := Wide(a), bigOf(a).String(); got != s {
			t.Errorf("Wide(%v): %q, want %q", a, got, s)
		}
	}
}

// TestParseWide is of P6.2: about the greatest wide integer.
func TestParseWide(t *testing.T) {
	if a, e := ParseWide(most); a != top || e != api.OK {
		t.Errorf("ParseWide(%q): %v, %v", most, a, e)
	}
	over := []string{tooGreat, "340282366920938463463374607431768211459", "340282366920938463463374607431768211460", "340282366920938463463374607431768211465", "340282366920938463463374607431768211466", "999999999999999999999999999999999999999", "1" + strings.Repeat("0", 39), "1" + strings.Repeat("0", 40), most + "0", tooGreat + "0", strings.Repeat("9", 100000)}
	// 10 times these is 2^128 or more by all shifts that lose bits.
	for i := uint(125); i < 200; i++ {
		n := new(big.Int).Lsh(big.NewInt(1), i)
		over = append(over, n.Mul(n, big.NewInt(10)).String())
	}
	for _, s := range over {
		if a, e := ParseWide(s); a != (wide.Wide{}) || e != api.ErrRange {
			t.Errorf("ParseWide(%q): %v, %v", s, a, e)
		}
	}
	limit := bigOf(top)
	for d := int64(-1000); d <= 1000; d++ {
		n := new(big.Int).Add(limit, big.NewInt(d))
		a, e := ParseWide(n.String())
		if d <= 0 && (a != wideOf(n) || e != api.OK) || d > 0 && (a != (wide.Wide{}) || e != api.ErrRange) {
			t.Errorf("ParseWide(%q): %v, %v", n, a, e)
		}
	}
}

// TestRoundTrip is of P6.3: what is printed is parsed, and has no other text.
func TestRoundTrip(t *testing.T) {
	from := map[string]wide.Wide{}
	for _, a := range samples() {
		s := Wide(a)
		if b, e := ParseWide(s); b != a || e != api.OK {
			t.Errorf("ParseWide(%q): %v, %v, want %v", s, b, e, a)
		}
		if b, e := Parse(Print(a.Lo), a.Lo); b != a.Lo || e != api.OK {
			t.Errorf("Parse(%q): %d, %v", Print(a.Lo), b, e)
		}
		if other, ok := from[s]; ok && other != a {
			t.Errorf("%v and %v are both printed as %q", a, other, s)
		}
		from[s] = a
		if Print(a.Lo) != Wide(wide.Of(a.Lo)) {
			t.Errorf("%d has the texts %q and %q", a.Lo, Print(a.Lo), Wide(wide.Of(a.Lo)))
		}
	}
}

// TestParseAll is of P6.1, P6.2 and P6.3: strings about texts, held against the definition and the library.
func TestParseAll(t *testing.T) {
	source := rand.New(rand.NewSource(63))
	const bytes = "00123456789 +-a\xff"
	list := samples()
	limit := bigOf(top)
	seen := map[api.Errno]int{}
	for range 40000 {
		s := Wide(list[source.Intn(len(list))])
		for range source.Intn(3) {
			i := source.Intn(len(s) + 1)
			s = s[:i] + bytes[source.Intn(len(bytes)):][:1] + s[min(i+source.Intn(2), len(s)):]
		}
		want, value := api.ErrForm, wide.Wide{}
		if spelled.MatchString(s) {
			want = api.ErrRange
			n, _ := new(big.Int).SetString(s, 10)
			if n.Cmp(limit) <= 0 {
				want, value = api.OK, wideOf(n)
			}
		}
		seen[want]++
		if a, e := ParseWide(s); a != value || e != want {
			t.Errorf("ParseWide(%q): %v, %v, want %v, %v", s, a, e, value, want)
		}
		checkParse(t, s, want, value, source.Uint64()>>source.Intn(64))
		if want == api.OK && Wide(value) != s {
			t.Errorf("%q has the text %q too", s, Wide(value))
		}
	}
	if seen[api.OK] < 1000 || seen[api.ErrForm] < 1000 || seen[api.ErrRange] < 100 {
		t.Errorf("kinds of strings: %v", seen)
	}
}

// checkParse holds Parse against what s is as a wide integer.
func checkParse(t *testing.T, s string, e api.Errno, value wide.Wide, most uint64) {
	t.Helper()
	if e == api.OK && bigOf(value).Cmp(new(big.Int).SetUint64(most)) > 0 {
		e, value = api.ErrRange, wide.Wide{}
	}
	if n, got := Parse(s, most); got != e || n != value.Lo {
		t.Errorf("Parse(%q, %d): %d, %v, want %d, %v", s, most, n, got, value.Lo, e)
	}
}
