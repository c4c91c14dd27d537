package six

import (
	"encoding/binary"
	"math"
	"math/rand"
	"net/netip"
	"strings"
	"testing"

	"cribble/api"
	"cribble/wide"
)

// pair is an address and a text of it.
type pair struct {
	g [8]uint16
	s string
}

// canonical are addresses and their canonical texts.
var canonical = []pair{
	{[8]uint16{}, "::"},
	{[8]uint16{7: 1}, "::1"},
	{[8]uint16{0: 1}, "1::"},
	{[8]uint16{0x2001, 0xdb8, 0, 0, 0, 0, 0, 1}, "2001:db8::1"},
	{[8]uint16{0x2001, 0xdb8, 0, 0, 1, 0, 0, 1}, "2001:db8::1:0:0:1"},
	{[8]uint16{1, 2, 3, 4, 5, 6, 7, 8}, "1:2:3:4:5:6:7:8"},
	{[8]uint16{0, 2, 3, 4, 5, 6, 7, 8}, "0:2:3:4:5:6:7:8"},
	{[8]uint16{1, 2, 3, 0, 5, 6, 7, 8}, "1:2:3:0:5:6:7:8"},
	{[8]uint16{1, 2, 3, 4, 5, 6, 7, 0}, "1:2:3:4:5:6:7:0"},
	{[8]uint16{0, 2, 0, 4, 0, 6, 0, 8}, "0:2:0:4:0:6:0:8"},
	{[8]uint16{0, 0, 3, 4, 5, 6, 7, 8}, "::3:4:5:6:7:8"},
	{[8]uint16{1, 2, 3, 4, 5, 6, 0, 0}, "1:2:3:4:5:6::"},
	{[8]uint16{1, 0, 0, 4, 5, 6, 7, 8}, "1::4:5:6:7:8"},
	{[8]uint16{0, 0, 3, 0, 0, 6, 0, 0}, "::3:0:0:6:0:0"},
	{[8]uint16{0, 0, 3, 0, 0, 0, 7, 0}, "0:0:3::7:0"},
	{[8]uint16{0, 0, 3, 4, 5, 0, 0, 0}, "0:0:3:4:5::"},
	{[8]uint16{0, 0, 0, 4, 5, 0, 0, 0}, "::4:5:0:0:0"},
	{[8]uint16{0, 0, 0, 0, 0, 0, 7, 8}, "::7:8"},
	{[8]uint16{1, 0, 0, 0, 0, 0, 0, 8}, "1::8"},
	{[8]uint16{0, 0, 0, 0, 0, 0xffff, 0x102, 0x304}, "::ffff:102:304"},
	{[8]uint16{0xabcd, 0xef, 0x10, 0x100, 0x1000, 0xf, 0xf0, 0xf00}, "abcd:ef:10:100:1000:f:f0:f00"},
	{[8]uint16{0xffff, 0xffff, 0xffff, 0xffff, 0xffff, 0xffff, 0xffff, 0xffff}, "ffff:ffff:ffff:ffff:ffff:ffff:ffff:ffff"},
}

// wideOf places the groups by hand.
func wideOf(g [8]uint16) wide.Wide {
	word := func(l []uint16) uint64 {
		return uint64(l[0])<<48 | uint64(l[1])<<32 | uint64(l[2])<<16 | uint64(l[3])
	}
	return wide.Wide{Hi: word(g[:4]), Lo: word(g[4:])}
}

// addrOf returns the same address of the library.
func addrOf(g [8]uint16) netip.Addr {
	var b [16]byte
	for i, v := range g {
		binary.BigEndian.PutUint16(b[2*i:], v)
	}
	return netip.AddrFrom16(b)
}

// samples returns addresses with all arrangements of zero groups, and others.
func samples() [][8]uint16 {
	source := rand.New(rand.NewSource(4))
	var l [][8]uint16
	for set := range 1 << 8 {
		for _, most := range []int{1, 15, 0x1000, math.MaxUint16} {
			var g [8]uint16
			for i := range g {
				if set>>i&1 == 1 {
					g[i] = uint16(1 + source.Intn(most))
				}
			}
			l = append(l, g)
		}
	}
	return l
}

// TestGroups is of P4.1.
func TestGroups(t *testing.T) {
	for _, g := range samples() {
		if a := wideOf(g); Groups(a) != g || Of(g) != a {
			t.Errorf("%x: Groups %x, Of %x", g, Groups(a), Of(g))
		}
	}
	if a := Of([8]uint16{1, 2, 3, 4, 5, 6, 7, 8}); a != (wide.Wide{Hi: 0x0001000200030004, Lo: 0x0005000600070008}) {
		t.Errorf("Of: %x", a)
	}
}

// TestRun is of P4.1.
func TestRun(t *testing.T) {
	known := []struct {
		g     [8]uint16
		at, n int
	}{
		{[8]uint16{}, 0, 8},
		{[8]uint16{1, 2, 3, 4, 5, 6, 7, 8}, 0, 0},
		{[8]uint16{1, 0, 3, 0, 5, 0, 7, 0}, 0, 0},
		{[8]uint16{0, 2, 3, 4, 5, 6, 7, 8}, 0, 0},
		{[8]uint16{1, 2, 3, 4, 5, 6, 7, 0}, 0, 0},
		{[8]uint16{0, 0, 3, 4, 5, 6, 7, 8}, 0, 2},
		{[8]uint16{1, 2, 3, 4, 5, 6, 0, 0}, 6, 2},
		{[8]uint16{1, 0, 0, 2, 0, 0, 3, 4}, 1, 2},
		{[8]uint16{1, 0, 0, 2, 0, 0, 0, 4}, 4, 3},
		{[8]uint16{0, 2, 0, 0, 5, 0, 0, 0}, 5, 3},
		{[8]uint16{0, 0, 0, 4, 5, 0, 0, 0}, 0, 3},
		{[8]uint16{0, 0, 0, 0, 0, 0, 0, 8}, 0, 7},
		{[8]uint16{1, 0, 0, 0, 0, 0, 0, 0}, 1, 7},
	}
	for _, k := range known {
		if at, n := Run(k.g); at != k.at || n != k.n {
			t.Errorf("Run(%x): %d, %d, want %d, %d", k.g, at, n, k.at, k.n)
		}
	}
	for _, g := range samples() {
		wantAt, wantN := longest(g)
		if at, n := Run(g); at != wantAt || n != wantN {
			t.Errorf("Run(%x): %d, %d, want %d, %d", g, at, n, wantAt, wantN)
		}
	}
}

// longest tries every run by length, then by place.
func longest(g [8]uint16) (int, int) {
	for n := 8; n >= 2; n-- {
		for at := 0; at+n <= 8; at++ {
			zero := true
			for _, v := range g[at : at+n] {
				zero = zero && v == 0
			}
			if zero {
				return at, n
			}
		}
	}
	return 0, 0
}

// TestPrint is of P4.1.
func TestPrint(t *testing.T) {
	for _, c := range canonical {
		if s := Print(wideOf(c.g)); s != c.s {
			t.Errorf("Print(%x): %q, want %q", c.g, s, c.s)
		}
	}
	for _, g := range samples() {
		addr := addrOf(g)
		if addr.Is4In6() {
			// The library prints these with an IPv4 address.
			continue
		}
		if s := Print(wideOf(g)); s != addr.String() {
			t.Errorf("Print(%x): %q, want %q", g, s, addr.String())
		}
	}
}

// TestParse is of P4.1.
func TestParse(t *testing.T) {
	texts := append([]pair{
		{[8]uint16{}, "0:0:0:0:0:0:0:0"},
		{[8]uint16{}, "0000:0000:0000:0000:0000:0000:0000:0000"},
		{[8]uint16{}, "::0"},
		{[8]uint16{}, "0::"},
		{[8]uint16{}, "0::0"},
		{[8]uint16{}, "::0.0.0.0"},
		{[8]uint16{}, "0:0:0:0:0:0:0.0.0.0"},
		{[8]uint16{0x2001, 0xdb8, 0, 0, 0, 0, 0, 1}, "2001:db8:0:0:0:0:0:1"},
		{[8]uint16{0x2001, 0xdb8, 0, 0, 0, 0, 0, 1}, "2001:0DB8:0::0:1"},
		{[8]uint16{0x2001, 0xdb8, 0, 0, 0, 0, 0, 1}, "2001:0db8::0001"},
		{[8]uint16{0x2001, 0xdb8, 0, 0, 0, 0, 0, 1}, "2001:db8::0.0.0.1"},
		{[8]uint16{0xabcd, 0xef01, 0xabcd, 0xef01, 0xa, 0xb, 0xc, 0xdef}, "ABCD:EF01:aBcD:Ef01:A:b:C:0DeF"},
		{[8]uint16{0, 2, 3, 4, 5, 6, 7, 8}, "::2:3:4:5:6:7:8"},
		{[8]uint16{1, 2, 3, 0, 5, 6, 7, 8}, "1:2:3::5:6:7:8"},
		{[8]uint16{1, 0, 3, 4, 5, 6, 7, 8}, "1::3:4:5:6:7:8"},
		{[8]uint16{1, 2, 3, 4, 5, 6, 7, 0}, "1:2:3:4:5:6:7::"},
		{[8]uint16{1, 2, 3, 4, 5, 6, 0, 8}, "1:2:3:4:5:6::8"},
		{[8]uint16{0, 0, 0, 0, 0, 0, 0x102, 0x304}, "::1.2.3.4"},
		{[8]uint16{0, 0, 0, 0, 0, 0xffff, 0x102, 0x304}, "::ffff:1.2.3.4"},
		{[8]uint16{0, 0, 0, 0, 0, 0xffff, 0x102, 0x304}, "0:0:0:0:0:FFFF:1.2.3.4"},
		{[8]uint16{1, 2, 3, 4, 5, 6, 0x7f00, 1}, "1:2:3:4:5:6:127.0.0.1"},
		{[8]uint16{1, 2, 3, 4, 5, 0, 0xffff, 0xffff}, "1:2:3:4:5::255.255.255.255"},
		{[8]uint16{0, 2, 3, 4, 5, 6, 0x102, 0x304}, "::2:3:4:5:6:1.2.3.4"},
		{[8]uint16{1, 0, 3, 4, 5, 6, 0x102, 0x304}, "1::3:4:5:6:1.2.3.4"},
		{[8]uint16{0x64, 0xff9b, 0, 0, 0, 0, 0xc000, 0x221}, "64:ff9b::192.0.2.33"},
	}, canonical...)
	for _, c := range texts {
		if a, e := Parse(c.s); a != wideOf(c.g) || e != api.OK {
			t.Errorf("Parse(%q): %x, %v, want %x", c.s, Groups(a), e, c.g)
		}
	}
}

// TestParseWrong is of P4.1: what is no text of an address.
func TestParseWrong(t *testing.T) {
	wrong := []string{
		"", ":", ":::", "::::", "0", "1", "1:", ":1", "1:2", "1:2:3:4:5:6:7", "1:2:3:4:5:6:7:", ":2:3:4:5:6:7:8", "1:2:3:4:5:6:7:8:", ":1:2:3:4:5:6:7:8", "1:2:3:4:5:6:7:8:9",
		"1:::2", ":::1", "1:::", "::1:", ":1::", "1::2:", ":1::2", "::1::", "1::2::3", "::1::2", "1::2::", "::::1", "1:2::3:4::5:6",
		"::1:2:3:4:5:6:7:8", "1:2:3:4:5:6:7:8::", "1:2:3:4::5:6:7:8", "1:2:3:4:5:6:7::8", "1::2:3:4:5:6:7:8", "1:2:3:4:5:6:7:8::9", "::1:2:3:4:5:6:7:8:9", "0:0:0:0:0:0:0:0::",
		"12345::", "::12345", "00000::", "::00001", "1:2:3:4:5:6:7:00008", "::fffff", "1:2:3:4:5:6:7:12345", "::1234567890abcdef0",
		"g::", "::g", "::G", "::1g", "::0x1", "::x1", "::1_0", "::@", "::`", "::/", "1;;2", "::1/128", "::1%eth0", "::1%", "[::1]", "localhost",
		" ::", ":: ", ": :", ":: 1", "::1 ", " ", "1 ::", "1: :2", "::\t1", "::1\n", "\x00::", "::1\x00",
		"+1::", "-1::", "::+1", "::-1", "::-0", "::+0", "::+fff", "1:2:3:4:5:6:7:-8",
		"1.2.3.4", "1.2.3.4::", "::1.2.3.4:5", "1.2.3.4:1:2:3:4:5:6", "1:2:3:4:5:1.2.3.4:6", "1:2:3:4:5:6:7:1.2.3.4", "1:2:3:4:5:6:7:8:1.2.3.4", "1:2:3:4:5:1.2.3.4", "1:2:3:4:5:6::1.2.3.4", "::2:3:4:5:6:7:1.2.3.4",
		"1:2:3:4:5:6.7.8.9::", "1:2:3.4.5.6::7", "1:1.2.3.4::", "1.2.3.4::1", "::1.2.3.4::", "::1.2.3.4::1.2.3.4", "1.2.3.4::5.6.7.8", "::1.2.3.4:5.6.7.8", "::1.2.3.4:", "::1.2.3.4.",
		"::1.2.3", "::1.2.3.4.5", "::01.2.3.4", "::1.2.3.256", "::1.2.3.+4", "::1.2.3.a", "::1.2..4", "::.", "::1.", "::.1", "1:2:3:4:5:6:1.2.3", "::1.2.3.4 ", "::1.2.3.00",
		"\u0661::", "::\uff11", "::\u00e9", "\xff::", "::\x80", "1\uff1a\uff1a1", "::1\u00a0", "::\u0430",
		strings.Repeat(":", 10000), strings.Repeat("1:", 10000), strings.Repeat("0", 10000), strings.Repeat("::", 10000), "::" + strings.Repeat("0", 10000), strings.Repeat("1.", 10000),
	}
	for _, s := range wrong {
		if a, e := Parse(s); a != (wide.Wide{}) || e != api.ErrForm {
			t.Errorf("Parse(%q): %x, %v", s, a, e)
		}
	}
}

// TestParseAll is of P4.1 and P4.2: strings from the pieces of texts, held against the library's parser.
func TestParseAll(t *testing.T) {
	source := rand.New(rand.NewSource(41))
	pieces := []string{":", ":", ":", ":", "::", "0", "1", "0db8", "FFFF", "a", "12345", "1.2.3.4", "0.0.0.0", "1.2.3", "g"}
	right := 0
	check := func(s string) {
		addr, err := netip.ParseAddr(s)
		ok := err == nil && addr.Is6()
		a, e := Parse(s)
		switch {
		case !ok && (a != (wide.Wide{}) || e != api.ErrForm):
			t.Errorf("Parse(%q): %x, %v", s, a, e)
		case ok && (e != api.OK || addrOf(Groups(a)) != addr):
			t.Errorf("Parse(%q): %x, %v, want %v", s, a, e, addr)
		case ok:
			right++
			if b, e := Parse(Print(a)); b != a || e != api.OK {
				t.Errorf("%q, printed as %q, is parsed to %x, %v", s, Print(a), b, e)
			}
		}
	}
	for range 60000 {
		var s string
		for range source.Intn(12) {
			s += pieces[source.Intn(len(pieces))]
		}
		check(s)
		// Groups and colons in turn, so that many are texts.
		parts := make([]string, 1+source.Intn(9))
		for i := range parts {
			parts[i] = pieces[5+source.Intn(5)]
		}
		if source.Intn(2) == 0 {
			parts[source.Intn(len(parts))] = ""
		}
		if source.Intn(3) == 0 {
			parts[len(parts)-1] = "10.0.0.255"
		}
		check(strings.Join(parts, ":"))
	}
	if right < 5000 || right > 100000 {
		t.Errorf("%d of the strings are texts", right)
	}
}

// TestRoundTrip is of P4.2.
func TestRoundTrip(t *testing.T) {
	for _, g := range samples() {
		a := wideOf(g)
		if b, e := Parse(Print(a)); b != a || e != api.OK {
			t.Errorf("Parse(%q): %x, %v, want %x", Print(a), b, e, a)
		}
	}
	a, e := Parse("::ffff:1.2.3.4")
	if e != api.OK || Print(a) != "::ffff:102:304" {
		t.Errorf("%q, %v", Print(a), e)
	}
}
