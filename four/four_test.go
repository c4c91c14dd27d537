package four

import (
	"math"
	"math/rand"
	"regexp"
	"strconv"
	"strings"
	"testing"

	"cribble/api"
)

const byteText = `(0|[1-9]|[1-9][0-9]|1[0-9][0-9]|2[0-4][0-9]|25[0-5])`

// spelled is the definition of a text, as the chapter gives it, apart from the parser.
var spelled = regexp.MustCompile(`\A(` + byteText + `\.){3}` + byteText + `\z`)

// samples returns both ends, every byte at every place, and addresses from everywhere.
func samples() []uint32 {
	l := []uint32{0, 1, 0x0a000001, 0x7fffffff, 0x80000000, math.MaxUint32 - 1, math.MaxUint32}
	for v := range uint32(256) {
		for place := 0; place < 32; place += 8 {
			l = append(l, v<<place, ^(v << place))
		}
	}
	source := rand.New(rand.NewSource(3))
	for range 2000 {
		l = append(l, source.Uint32())
	}
	return l
}

// TestPrint is of P3.1.
func TestPrint(t *testing.T) {
	want := map[uint32]string{0: "0.0.0.0", 1: "0.0.0.1", 167772161: "10.0.0.1", 0xc0a80001: "192.168.0.1", 0x01020304: "1.2.3.4", 0x640a6300: "100.10.99.0", math.MaxUint32: "255.255.255.255"}
	for a, s := range want {
		if got := Print(a); got != s {
			t.Errorf("Print(%d): %q, want %q", a, got, s)
		}
	}
	for _, a := range samples() {
		var parts []string
		for place := 24; place >= 0; place -= 8 {
			parts = append(parts, strconv.Itoa(int(a>>place&255)))
		}
		if s := strings.Join(parts, "."); Print(a) != s {
			t.Errorf("Print(%d): %q, want %q", a, Print(a), s)
		}
	}
}

// TestParse is of P3.1.
func TestParse(t *testing.T) {
	want := map[string]uint32{"0.0.0.0": 0, "0.0.0.1": 1, "10.0.0.1": 167772161, "1.2.3.4": 0x01020304, "9.10.99.100": 0x090a6364, "199.200.249.250": 0xc7c8f9fa, "255.255.255.255": math.MaxUint32}
	for s, a := range want {
		if got, e := Parse(s); got != a || e != api.OK {
			t.Errorf("Parse(%q): %d, %v", s, got, e)
		}
	}
}

// TestParseWrong is of P3.1: what is no text of an address.
func TestParseWrong(t *testing.T) {
	wrong := []string{
		"", ".", "..", "...", "....", "0", "1.2", "1.2.3", "1.2.3.", ".1.2.3", "1..2.3", "1.2..4", "1.2.3.4.", ".1.2.3.4", "1.2.3.4.5", "1.2.3.4.5.6",
		"01.2.3.4", "1.02.3.4", "1.2.03.4", "1.2.3.04", "00.0.0.0", "0.0.0.00", "0.0.0.000", "001.2.3.4", "1.2.3.010",
		"256.0.0.0", "0.256.0.0", "0.0.256.0", "0.0.0.256", "0.0.0.260", "0.0.0.300", "0.0.0.999", "0.0.0.1000", "0.0.0.4294967296", "0.0.0.18446744073709551616", "0.0.0.18446744073709551617",
		" 1.2.3.4", "1.2.3.4 ", "1. 2.3.4", "1 .2.3.4", " ", "1.2.3. ", "1.2.3.4\n", "\t1.2.3.4", "1.2.3.4\x00", "\x001.2.3.4",
		"+1.2.3.4", "-1.2.3.4", "1.2.3.+4", "1.2.3.-4", "1.-0.3.4", "1.+0.3.4", "1.2.3.-",
		"1,2,3,4", "1:2:3:4", "1.2.3:4", "1.2.3.4/32", "a.b.c.d", "0x1.2.3.4", "1.2.3.0b1", "1.2.3.f", "1.2.3.1e1", "1_0.2.3.4", "1.2.3.1_0",
		"\u0661.2.3.4", "1.2.3.\u0664", "\uff11.2.3.4", "1\u30022.3.4", "1\u00a0.2.3.4", "1.2.3.4\u00e9", "\xff.2.3.4", "1.2.3.4\x80", "\xb1.2.3.4",
		strings.Repeat("0", 1000) + "1.2.3.4", strings.Repeat("1.", 1000), strings.Repeat("9", 10000), strings.Repeat(".", 10000),
	}
	for _, s := range wrong {
		if a, e := Parse(s); a != 0 || e != api.ErrForm {
			t.Errorf("Parse(%q): %d, %v", s, a, e)
		}
	}
}

// TestParseAll is of P3.1 and P3.3: strings from the bytes of texts, held against the definition.
func TestParseAll(t *testing.T) {
	source := rand.New(rand.NewSource(31))
	const bytes = "0123459.. +\xff"
	texts := 0
	for range 40000 {
		s := []byte(Print(source.Uint32()))
		for range source.Intn(3) {
			i := source.Intn(len(s))
			switch source.Intn(3) {
			case 0:
				s[i] = bytes[source.Intn(len(bytes))]
			case 1:
				s = append(s[:i], s[i+1:]...)
			default:
				s = append(s[:i], append([]byte{bytes[source.Intn(len(bytes))]}, s[i:]...)...)
			}
		}
		a, e := Parse(string(s))
		if spelled.Match(s) != (e == api.OK) || e != api.OK && (a != 0 || e != api.ErrForm) {
			t.Errorf("Parse(%q): %d, %v", s, a, e)
		}
		if e == api.OK {
			texts++
			if Print(a) != string(s) {
				t.Errorf("Parse(%q), printed: %q", s, Print(a))
			}
		}
	}
	if texts < 1000 || texts > 39000 {
		t.Errorf("%d of the strings are texts", texts)
	}
}

// TestBytes is of P3.2.
func TestBytes(t *testing.T) {
	if b := Bytes(0x01020304); b != [4]byte{1, 2, 3, 4} {
		t.Errorf("Bytes: %v", b)
	}
	if a := Of([4]byte{1, 2, 3, 4}); a != 0x01020304 {
		t.Errorf("Of: %x", a)
	}
	for _, a := range samples() {
		want := [4]byte{byte(a / (1 << 24)), byte(a / (1 << 16) % 256), byte(a / (1 << 8) % 256), byte(a % 256)}
		if Bytes(a) != want || Of(want) != a {
			t.Errorf("Bytes(%d): %v; Of: %d", a, Bytes(a), Of(want))
		}
	}
}

// TestMask is of P3.2.
func TestMask(t *testing.T) {
	amounts := []int{math.MinInt, math.MinInt + 1, math.MinInt + 32, math.MinInt32, math.MaxInt32, math.MaxInt - 32, math.MaxInt}
	for n := -70; n <= 140; n++ {
		amounts = append(amounts, n)
	}
	for _, n := range amounts {
		want := uint32(0)
		for i := range 32 {
			if i < n {
				want |= 1 << (31 - i)
			}
		}
		if Mask(n) != want {
			t.Errorf("Mask(%d): %x, want %x", n, Mask(n), want)
		}
		for _, a := range []uint32{0, 1, 0x0a0b0c0d, 0x80000000, 0xf0f0f0f0, math.MaxUint32} {
			if Top(a, n) != a&want {
				t.Errorf("Top(%x, %d): %x, want %x", a, n, Top(a, n), a&want)
			}
		}
	}
	if Mask(0) != 0 || Mask(1) != 0x80000000 || Mask(8) != 0xff000000 || Mask(31) != 0xfffffffe || Mask(32) != 0xffffffff {
		t.Error("Mask")
	}
}

// TestRoundTrip is of P3.3.
func TestRoundTrip(t *testing.T) {
	from := map[string]uint32{}
	for _, a := range samples() {
		s := Print(a)
		if b, e := Parse(s); b != a || e != api.OK {
			t.Errorf("Parse(%q): %d, %v, want %d", s, b, e, a)
		}
		if other, ok := from[s]; ok && other != a {
			t.Errorf("%d and %d are both printed as %q", a, other, s)
		}
		from[s] = a
	}
}
