package text

import (
	"math"
	"math/big"
	"math/rand"
	"net/netip"
	"regexp"
	"slices"
	"strconv"
	"strings"
	"testing"

	"cribble/api"
	"cribble/key"
	"cribble/prefix"
	"cribble/wide"
)

// The widths of the kinds, apart from the program.
var widths = map[int]int{1: 32, 2: 128, 3: 8}

// What is accepted as a part and as a path, apart from the program.
var (
	partForm = regexp.MustCompile(`\A([^/]*)/(0|[1-9][0-9]*)\z`)
	pathForm = regexp.MustCompile(`\A([a-z0-9_]{1,16}(\.[a-z0-9_]{1,16}){0,7})?\z`)
)

// Dimensions of all kinds, with steps that divide the width and steps that do not.
var (
	four8  = api.Dim{Kind: 1, Side: 1, Step: 8}
	four12 = api.Dim{Kind: 1, Side: 2, Step: 12}
	four1  = api.Dim{Kind: 1, Side: 1, Step: 1}
	six48  = api.Dim{Kind: 2, Side: 1, Step: 48}
	six16  = api.Dim{Kind: 2, Side: 2, Step: 16}
	six128 = api.Dim{Kind: 2, Side: 2, Step: 128}
	path3  = api.Dim{Kind: 3, Side: 2, Step: 3}
	path1  = api.Dim{Kind: 3, Side: 1, Step: 1}
	path8  = api.Dim{Kind: 3, Side: 2, Step: 8}
)

// rightDims returns valid dimensions.
func rightDims() []api.Dim {
	return []api.Dim{four8, four12, four1, six48, six16, six128, path3, path1, path8}
}

// wrongDims returns dimensions that are not valid.
func wrongDims() []api.Dim {
	return []api.Dim{
		{}, {Kind: 1}, {Side: 1}, {Step: 1}, {Kind: 1, Side: 1}, {Kind: 1, Step: 8}, {Side: 2, Step: 8}, {Kind: 4, Side: 1, Step: 1}, {Kind: -1, Side: 1, Step: 1}, {Kind: 1, Side: 3, Step: 8}, {Kind: 1, Side: -1, Step: 8}, {Kind: 3, Step: 3}, {Kind: 2, Side: 3, Step: 16},
		{Kind: 1, Side: 1, Step: 33}, {Kind: 1, Side: 1, Step: -8}, {Kind: 2, Side: 2, Step: 129}, {Kind: 3, Side: 1, Step: 9}, {Kind: 3, Side: 2, Step: -1}, {Kind: math.MaxInt, Side: math.MaxInt, Step: math.MaxInt}, {Kind: math.MinInt, Side: math.MinInt, Step: math.MinInt}, {Kind: 1, Side: 1, Step: math.MinInt}, {Kind: 3, Side: 1, Step: math.MaxInt},
	}
}

// one returns the space of a dimension.
func one(d api.Dim) api.Space { return api.Space{N: 1, D: [2]api.Dim{d}} }

// two returns the space of two dimensions.
func two(a, b api.Dim) api.Space { return api.Space{N: 2, D: [2]api.Dim{a, b}} }

// rightSpaces returns valid spaces of one and of two dimensions.
func rightSpaces() []api.Space {
	var l []api.Space
	for _, d := range rightDims() {
		l = append(l, one(d))
	}
	return append(l, two(four8, path3), two(path3, four8), two(four12, four12), two(path1, path8), two(six48, path3), two(four1, six16), two(six128, six48))
}

// wrongSpaces returns spaces that are not valid.
func wrongSpaces() []api.Space {
	l := []api.Space{{}, {N: 1}, {N: 2}, {N: 1, D: [2]api.Dim{four8, path3}}, {N: 2, D: [2]api.Dim{four8}}, {N: 2, D: [2]api.Dim{{}, path3}}, {N: 1, D: [2]api.Dim{{}, path3}}, {N: 1, D: [2]api.Dim{four8, {Step: 1}}}}
	for _, n := range []int{0, 3, -1, math.MinInt, math.MaxInt} {
		l = append(l, api.Space{N: n}, api.Space{N: n, D: [2]api.Dim{four8}}, api.Space{N: n, D: [2]api.Dim{four8, path3}})
	}
	for _, d := range wrongDims() {
		l = append(l, one(d), two(d, path3), two(four8, d), two(d, d))
	}
	return l
}

// lengths returns the lengths of the levels of a valid dimension, as chapter 8 defines them.
func lengths(d api.Dim) []int {
	l := []int{widths[d.Kind]}
	for l[len(l)-1] > 0 {
		l = append(l, max(0, l[len(l)-1]-d.Step))
	}
	return l
}

// onLevel is what chapter 8 calls being on a level of a valid dimension.
func onLevel(d api.Dim, level int, k api.Key) bool {
	l := lengths(d)
	return level >= 0 && level < len(l) && key.Right(k) && k.Kind == d.Kind && (k.Len == l[level] || k.Kind == 3 && k.Len <= l[level])
}

// valid is what chapter 9 calls a valid prefix of a valid space.
func valid(s api.Space, p api.Prefix) bool {
	if s.N == 1 {
		return onLevel(s.D[0], p.At[0], p.Key[0]) && p.At[1] == 0 && p.Key[1] == api.Key{}
	}
	return onLevel(s.D[0], p.At[0], p.Key[0]) && onLevel(s.D[1], p.At[1], p.Key[1])
}

// path returns the key of a path.
func path(p string) api.Key {
	k, _ := key.Path(p)
	return k
}

// address returns the bits of the text of an address of a kind, from the left end.
func address(kind int, s string) (wide.Wide, bool) {
	a, err := netip.ParseAddr(s)
	if err != nil || a.Zone() != "" || a.Is4() != (kind == 1) {
		return wide.Wide{}, false
	}
	var b [16]byte
	copy(b[:], a.AsSlice())
	var w wide.Wide
	for i := range 8 {
		w.Hi, w.Lo = w.Hi<<8|uint64(b[i]), w.Lo<<8|uint64(b[8+i])
	}
	return w, true
}

// allZero reports whether no bit from n on is 1.
func allZero(w wide.Wide, n int) bool {
	for i := n; i < 128; i++ {
		if wide.Bit(w, i) {
			return false
		}
	}
	return true
}

// meant is what the chapter says of t as a part of a valid dimension.
func meant(d api.Dim, t string) (int, api.Key, api.Errno) {
	m := partForm.FindStringSubmatch(t)
	if m == nil {
		return 0, api.Key{}, api.ErrForm
	}
	bits, ok := wide.Wide{}, pathForm.MatchString(m[1])
	if d.Kind != 3 {
		bits, ok = address(d.Kind, m[1])
	}
	if !ok {
		return 0, api.Key{}, api.ErrForm
	}
	n, _ := new(big.Int).SetString(m[2], 10)
	for level, length := range lengths(d) {
		switch {
		case n.Cmp(big.NewInt(int64(length))) != 0:
		case d.Kind != 3 && allZero(bits, length):
			return level, api.Key{Kind: d.Kind, Len: length, Hi: bits.Hi, Lo: bits.Lo}, api.OK
		case d.Kind == 3 && path(m[1]).Len <= length:
			return level, path(m[1]), api.OK
		}
	}
	return 0, api.Key{}, api.ErrMatch
}

// worded are valid keys and their words.
var worded = []struct {
	k    api.Key
	word string
}{
	{key.Four(167772161), "10.0.0.1"},
	{key.Four(0), "0.0.0.0"},
	{key.Four(math.MaxUint32), "255.255.255.255"},
	{key.Four(0x01020304), "1.2.3.4"},
	{api.Key{Kind: 1, Len: 8, Hi: 10 << 56}, "10.0.0.0"},
	{api.Key{Kind: 1, Len: 9, Hi: 10<<56 | 1<<55}, "10.128.0.0"},
	{api.Key{Kind: 1, Len: 31, Hi: 10 << 56}, "10.0.0.0"},
	{api.Key{Kind: 1, Len: 1, Hi: 1 << 63}, "128.0.0.0"},
	{api.Key{Kind: 1}, "0.0.0.0"},
	{key.Six(wide.Of(1)), "::1"},
	{key.Six(wide.Wide{}), "::"},
	{key.Six(wide.Wide{Hi: 0x20010db8 << 32, Lo: 1}), "2001:db8::1"},
	{key.Six(wide.Wide{Lo: 0xffff01020304}), "::ffff:102:304"},
	{key.Six(wide.Wide{Hi: math.MaxUint64, Lo: math.MaxUint64}), "ffff:ffff:ffff:ffff:ffff:ffff:ffff:ffff"},
	{api.Key{Kind: 2, Len: 32, Hi: 0x20010db8 << 32}, "2001:db8::"},
	{api.Key{Kind: 2, Len: 65, Lo: 1 << 63}, "::8000:0:0:0"},
	{api.Key{Kind: 2, Len: 1, Hi: 1 << 63}, "8000::"},
	{api.Key{Kind: 2}, "::"},
	{path("net.dc1"), "net.dc1"},
	{path("a.b.c.d.e.f.g.h"), "a.b.c.d.e.f.g.h"},
	{path("_0"), "_0"},
	{path(""), ""},
}

// wrongKeys returns keys that are not valid: with bits or labels that they do not have, with too many of them, and of no kind.
func wrongKeys() []api.Key {
	return []api.Key{
		{}, {Kind: 4}, {Kind: -1}, {Kind: math.MinInt}, {Kind: math.MaxInt, Len: 8}, {Len: 1}, {Path: "a"}, {Hi: 10 << 56},
		{Kind: 1, Len: 33}, {Kind: 1, Len: -1}, {Kind: 1, Len: 8, Hi: 1}, {Kind: 1, Len: 8, Hi: 10<<56 | 1<<55}, {Kind: 1, Hi: 1}, {Kind: 1, Len: 8, Path: "a"}, {Kind: 1, Len: 32, Lo: 1}, {Kind: 1, Path: "a"}, {Kind: 1, Len: math.MinInt}, {Kind: 1, Len: math.MaxInt},
		{Kind: 2, Len: 129}, {Kind: 2, Len: -1}, {Kind: 2, Lo: 1}, {Kind: 2, Len: 128, Path: "a"}, {Kind: 2, Len: math.MinInt}, {Kind: 2, Len: 64, Lo: 1}, {Kind: 2, Len: 127, Lo: 1},
		{Kind: 3, Len: 1}, {Kind: 3, Path: "a"}, {Kind: 3, Len: 8}, {Kind: 3, Len: 9, Path: "a.b.c.d.e.f.g.h.i"}, {Kind: 3, Len: 1, Path: "A"}, {Kind: 3, Path: "."}, {Kind: 3, Hi: 1}, {Kind: 3, Len: 1, Path: "a", Lo: 1}, {Kind: 3, Len: -1}, {Kind: 3, Len: 2, Path: "a.b.c"}, {Kind: 3, Len: 1, Path: "a/b"}, {Kind: 3, Len: 1, Path: "a>b"},
	}
}

// rightKeys returns valid keys of all kinds and lengths.
func rightKeys() []api.Key {
	var l []api.Key
	for _, w := range worded {
		l = slices.AppendSeq(l, key.Up(w.k))
	}
	slices.SortFunc(l, key.Cmp)
	return slices.Compact(l)
}

// levels returns numbers of levels of all sorts.
func levels() []int {
	l := []int{math.MinInt, math.MinInt + 1, math.MaxInt - 1, math.MaxInt}
	for n := -2; n <= 34; n++ {
		l = append(l, n)
	}
	return l
}

// words returns texts of addresses and paths, and texts that are almost such.
func words() []string {
	return []string{
		"", "10.0.0.0", "10.0.0.1", "10.1.0.0", "10.128.0.0", "0.0.0.0", "255.255.255.255", "128.0.0.0", "10.0.0.128", "10.0.1.0", "10.0.16.0", "10.0.8.0", "10.0.0", "10.0.0.0.0", "010.0.0.0", "256.0.0.0", " 10.0.0.0", "10.0.0.0 ", "+10.0.0.0", "10.0.0.0>", "10.0.0.0\n",
		"::", "::1", "8000::", "2001:db8::", "2001:DB8::", "2001:db8:0:0:0:0:0:0", "2001:0db8::0:0", "2001:db8::0.0.0.0", "2001:db8::1", "::ffff:1.2.3.4", "::ffff:102:304", "::FFFF:0102:0304", "1:2:3:4:5:6:7:8", "1:2:3::", "1:2::", "1:2:3:4:5::", "::1:0:0:0", "1:2:3:4:5:6:7", "1::2::3", "fe80::1%a", "12345::",
		"net", "net.dc1", "net.dc1.rack2", "a.b.c.d.e", "a.b.c.d.e.f", "a.b.c.d.e.f.g.h", "a.b.c.d.e.f.g.h.i", "A", "a..b", ".a", "a.", ".", "a-b", "a b", "abcdefghijklmnop", "abcdefghijklmnopq", "10", "0",
	}
}

// integers returns texts behind a /, of integers and of what is almost one.
func integers() []string {
	return []string{
		"", "00", "01", "08", "032", "+8", "-8", "-0", "+0", " 8", "8 ", "8.0", "1e1", "0x8", "8_0", "a", "8/", "/8", "8/8", "8>", "８",
		"1000", "255", "256", "264", "4294967296", "4294967304", "9223372036854775807", "9223372036854775808", "18446744073709551615", "18446744073709551616", "18446744073709551624", "99999999999999999999", "340282366920938463463374607431768211456", "340282366920938463463374607431768211464", strings.Repeat("9", 500), strings.Repeat("0", 500),
	}
}

// partTexts returns words with integers, and with every length from 0 up.
func partTexts() []string {
	l := []string{"", "/", "//", "8", ">", "/>/"}
	for _, w := range words() {
		l = append(l, w, w+" /8", w+"/ 8", w+"//8", "/"+w+"/8", w+":8", w+"\\8", w+"/8/"+w)
		for _, n := range integers() {
			l = append(l, w+"/"+n)
		}
		for n := range 131 {
			l = append(l, w+"/"+strconv.Itoa(n))
		}
	}
	return l
}

// TestWord is of P11.1.
func TestWord(t *testing.T) {
	for _, c := range worded {
		if got := Word(c.k); got != c.word {
			t.Errorf("Word(%+v): %q, not %q", c.k, got, c.word)
		}
	}
	for _, k := range wrongKeys() {
		if got := Word(k); got != "" {
			t.Errorf("Word(%+v): %q", k, got)
		}
	}
}

// TestWordOfCuts is of P11.1: the word of a cut address has the bits of the key, and no others.
func TestWordOfCuts(t *testing.T) {
	for _, k := range rightKeys() {
		w := Word(k)
		if k.Kind == 3 {
			if w != k.Path {
				t.Errorf("Word(%+v): %q", k, w)
			}
			continue
		}
		if bits, ok := address(k.Kind, w); !ok || bits != (wide.Wide{Hi: k.Hi, Lo: k.Lo}) {
			t.Errorf("Word(%+v): %q", k, w)
		}
		if again := Word(api.Key{Kind: k.Kind, Len: widths[k.Kind], Hi: k.Hi, Lo: k.Lo}); again != w {
			t.Errorf("Word(%+v): %q, and %q with all bits", k, w, again)
		}
	}
}

// TestPart is of P11.1.
func TestPart(t *testing.T) {
	for _, d := range rightDims() {
		for _, level := range levels() {
			for _, k := range append(rightKeys(), wrongKeys()...) {
				want := ""
				if onLevel(d, level, k) {
					want = Word(k) + "/" + strconv.Itoa(lengths(d)[level])
				}
				if got := Part(d, level, k); got != want {
					t.Errorf("Part(%+v, %d, %+v): %q, not %q", d, level, k, got, want)
				}
			}
		}
	}
}

// TestPartEdges is of P11.1: parts spelled out, at the first level, at the last one and one beyond, and off the levels.
func TestPartEdges(t *testing.T) {
	for _, c := range []struct {
		d     api.Dim
		level int
		k     api.Key
		want  string
	}{
		{four8, 3, api.Key{Kind: 1, Len: 8, Hi: 10 << 56}, "10.0.0.0/8"},
		{four8, 0, key.Four(167772161), "10.0.0.1/32"},
		{four8, 4, api.Key{Kind: 1}, "0.0.0.0/0"},
		{four8, 5, api.Key{Kind: 1}, ""},
		{four8, -1, key.Four(1), ""},
		{four8, 2, api.Key{Kind: 1, Len: 8, Hi: 10 << 56}, ""},
		{four8, 3, api.Key{Kind: 1, Len: 9, Hi: 10 << 56}, ""},
		{four8, 3, api.Key{Kind: 1, Len: 8, Hi: 10<<56 | 1}, ""},
		{four8, 4, api.Key{Kind: 2}, ""},
		{four8, 4, api.Key{Kind: 3}, ""},
		{four12, 1, api.Key{Kind: 1, Len: 20, Hi: 10 << 56}, "10.0.0.0/20"},
		{six48, 0, key.Six(wide.Of(1)), "::1/128"},
		{six48, 2, api.Key{Kind: 2, Len: 32, Hi: 0x20010db8 << 32}, "2001:db8::/32"},
		{six48, 3, api.Key{Kind: 2}, "::/0"},
		{six48, 4, api.Key{Kind: 2}, ""},
		{path3, 1, path("net.dc1"), "net.dc1/5"},
		{path3, 0, path("net.dc1"), "net.dc1/8"},
		{path3, 2, path("net.dc1"), "net.dc1/2"},
		{path3, 3, path("net.dc1"), ""},
		{path3, 3, path(""), "/0"},
		{path3, 0, path(""), "/8"},
		{path3, 4, path(""), ""},
		{path3, -1, path(""), ""},
		{path3, 3, api.Key{Kind: 1}, ""},
	} {
		if got := Part(c.d, c.level, c.k); got != c.want {
			t.Errorf("Part(%+v, %d, %+v): %q, not %q", c.d, c.level, c.k, got, c.want)
		}
	}
}

// TestParsePart is of P11.1: all words with all integers, in dimensions of all kinds.
func TestParsePart(t *testing.T) {
	for _, d := range rightDims() {
		found := 0
		for _, s := range partTexts() {
			level, k, e := ParsePart(d, s)
			wantLevel, wantKey, want := meant(d, s)
			if level != wantLevel || k != wantKey || e != want {
				t.Errorf("ParsePart(%+v, %q): %d, %+v, %v; not %d, %+v, %v", d, s, level, k, e, wantLevel, wantKey, want)
			}
			if e == api.OK {
				found++
			}
		}
		if found < 5 {
			t.Errorf("%+v: only %d texts are parts", d, found)
		}
	}
}

// TestParsePartEdges is of P11.1: results and errors spelled out.
func TestParsePartEdges(t *testing.T) {
	slash8 := api.Key{Kind: 1, Len: 8, Hi: 10 << 56}
	slash32 := api.Key{Kind: 2, Len: 32, Hi: 0x20010db8 << 32}
	for _, c := range []struct {
		d     api.Dim
		s     string
		level int
		k     api.Key
		e     api.Errno
	}{
		{four8, "10.0.0.0/8", 3, slash8, api.OK},
		{four8, "10.0.0.1/32", 0, key.Four(167772161), api.OK},
		{four8, "0.0.0.0/0", 4, api.Key{Kind: 1}, api.OK},
		{four8, "0.0.0.1/0", 0, api.Key{}, api.ErrMatch},
		{four8, "10.1.0.0/8", 0, api.Key{}, api.ErrMatch},
		{four8, "10.128.0.0/8", 0, api.Key{}, api.ErrMatch},
		{four8, "10.0.0.0/9", 0, api.Key{}, api.ErrMatch},
		{four8, "10.0.0.0/33", 0, api.Key{}, api.ErrMatch},
		{four8, "10.0.0.0/40", 0, api.Key{}, api.ErrMatch},
		{four8, "0.0.0.0/18446744073709551616", 0, api.Key{}, api.ErrMatch},
		{four8, "10.0.0.0/18446744073709551624", 0, api.Key{}, api.ErrMatch},
		{four8, "x/18446744073709551624", 0, api.Key{}, api.ErrForm},
		{four8, "10.0.0.0/08", 0, api.Key{}, api.ErrForm},
		{four8, "10.0.0.0/+8", 0, api.Key{}, api.ErrForm},
		{four8, "10.0.0.0/", 0, api.Key{}, api.ErrForm},
		{four8, "10.0.0.0", 0, api.Key{}, api.ErrForm},
		{four8, "/8", 0, api.Key{}, api.ErrForm},
		{four8, "", 0, api.Key{}, api.ErrForm},
		{four8, "10.0.0.0/8/8", 0, api.Key{}, api.ErrForm},
		{four8, "10.0.0.0//8", 0, api.Key{}, api.ErrForm},
		{four8, "10.0.0/8", 0, api.Key{}, api.ErrForm},
		{four8, "::/8", 0, api.Key{}, api.ErrForm},
		{four8, "net/8", 0, api.Key{}, api.ErrForm},
		{six48, "2001:db8::/32", 2, slash32, api.OK},
		{six48, "2001:DB8:0:0:0:0:0:0/32", 2, slash32, api.OK},
		{six48, "2001:db8::0.0.0.0/32", 2, slash32, api.OK},
		{six48, "2001:0db8:0000::/32", 2, slash32, api.OK},
		{six48, "2001:db8::1/32", 0, api.Key{}, api.ErrMatch},
		{six48, "2001:db8:8000::/32", 0, api.Key{}, api.ErrMatch},
		{six48, "2001:db8::/48", 0, api.Key{}, api.ErrMatch},
		{six48, "::ffff:1.2.3.4/128", 0, key.Six(wide.Wide{Lo: 0xffff01020304}), api.OK},
		{six48, "10.0.0.0/128", 0, api.Key{}, api.ErrForm},
		{six48, "/128", 0, api.Key{}, api.ErrForm},
		{path3, "net.dc1/5", 1, path("net.dc1"), api.OK},
		{path3, "a.b.c.d.e/5", 1, path("a.b.c.d.e"), api.OK},
		{path3, "a.b.c.d.e.f/5", 0, api.Key{}, api.ErrMatch},
		{path3, "a.b.c.d.e.f.g.h/8", 0, path("a.b.c.d.e.f.g.h"), api.OK},
		{path3, "a.b.c.d.e.f.g.h.i/8", 0, api.Key{}, api.ErrForm},
		{path3, "a.b.c/2", 0, api.Key{}, api.ErrMatch},
		{path3, "a/0", 0, api.Key{}, api.ErrMatch},
		{path3, "a/4", 0, api.Key{}, api.ErrMatch},
		{path3, "/0", 3, path(""), api.OK},
		{path3, "/8", 0, path(""), api.OK},
		{path3, "/4", 0, api.Key{}, api.ErrMatch},
		{path3, "/", 0, api.Key{}, api.ErrForm},
		{path3, "", 0, api.Key{}, api.ErrForm},
		{path3, "A/8", 0, api.Key{}, api.ErrForm},
		{path3, "A/4", 0, api.Key{}, api.ErrForm},
		{path3, "a/99999999999999999999", 0, api.Key{}, api.ErrMatch},
		{path3, "/99999999999999999999", 0, api.Key{}, api.ErrMatch},
		{path3, "10.0.0.0/8", 0, path("10.0.0.0"), api.OK},
	} {
		level, k, e := ParsePart(c.d, c.s)
		if level != c.level || k != c.k || e != c.e {
			t.Errorf("ParsePart(%+v, %q): %d, %+v, %v; not %d, %+v, %v", c.d, c.s, level, k, e, c.level, c.k, c.e)
		}
	}
}

// TestWrongDims is of P11.1: what is not a dimension has no parts, and its error comes before those of the text.
func TestWrongDims(t *testing.T) {
	for _, d := range wrongDims() {
		for _, s := range []string{"", "/", "10.0.0.0/8", "::/0", "net.dc1/5", "/0", "A/8", "a/99999999999999999999", "10.1.0.0/8"} {
			if level, k, e := ParsePart(d, s); level != 0 || k != (api.Key{}) || e != api.ErrArg {
				t.Errorf("ParsePart(%+v, %q): %d, %+v, %v", d, s, level, k, e)
			}
		}
		for _, level := range levels() {
			for _, c := range worded {
				if got := Part(d, level, c.k); got != "" {
					t.Errorf("Part(%+v, %d, %+v): %q", d, level, c.k, got)
				}
			}
		}
	}
}

// points returns each level of a dimension with some keys on it.
func points(d api.Dim) []point {
	var l []point
	for level, n := range lengths(d) {
		for _, c := range worded {
			if p := (point{level, key.Cut(c.k, n)}); c.k.Kind == d.Kind && onLevel(d, level, p.k) && !slices.Contains(l, p) {
				l = append(l, p)
			}
		}
	}
	return l
}

// point is a level and a key on it.
type point struct {
	level int
	k     api.Key
}

// rightPrefixes returns valid prefixes of a valid space, and for each the text by its definition.
func rightPrefixes(s api.Space) map[api.Prefix]string {
	m := map[api.Prefix]string{}
	spell := func(d api.Dim, p point) string { return Word(p.k) + "/" + strconv.Itoa(lengths(d)[p.level]) }
	for _, a := range points(s.D[0]) {
		if s.N == 1 {
			m[api.Prefix{At: [2]int{a.level}, Key: [2]api.Key{a.k}}] = spell(s.D[0], a)
			continue
		}
		for _, b := range points(s.D[1]) {
			m[api.Prefix{At: [2]int{a.level, b.level}, Key: [2]api.Key{a.k, b.k}}] = spell(s.D[0], a) + ">" + spell(s.D[1], b)
		}
	}
	return m
}

// TestPrint is of P11.2.
func TestPrint(t *testing.T) {
	for _, s := range rightSpaces() {
		for p, want := range rightPrefixes(s) {
			if got := Print(s, p); got != want {
				t.Errorf("Print(%+v, %+v): %q, not %q", s, p, got, want)
			}
		}
	}
	both := two(four8, path3)
	p := api.Prefix{At: [2]int{3, 1}, Key: [2]api.Key{{Kind: 1, Len: 8, Hi: 10 << 56}, path("net.dc1")}}
	if got := Print(both, p); got != "10.0.0.0/8>net.dc1/5" {
		t.Errorf("the chapter's example: %q", got)
	}
	if got := Print(both, prefix.Top(both)); got != "0.0.0.0/0>/0" {
		t.Errorf("the top: %q", got)
	}
}

// TestPrintWrong is of P11.2: the empty string for what is not a prefix of the space.
func TestPrintWrong(t *testing.T) {
	for _, s := range rightSpaces() {
		for p := range rightPrefixes(s) {
			for i := range p.At {
				for _, level := range []int{math.MinInt, -1, 0, 1, p.At[i] + 1, p.At[i] - 1, math.MaxInt} {
					q := p
					q.At[i] = level
					if got := Print(s, q); (got == "") == valid(s, q) {
						t.Errorf("Print(%+v, %+v): %q", s, q, got)
					}
				}
			}
		}
		for p := range rightPrefixes(s) {
			for _, k := range wrongKeys() {
				for i := range p.Key {
					q := p
					q.Key[i] = k
					if got := Print(s, q); (got == "") == valid(s, q) {
						t.Errorf("Print(%+v, %+v): %q", s, q, got)
					}
				}
			}
		}
	}
	for _, s := range wrongSpaces() {
		for _, p := range []api.Prefix{{}, {At: [2]int{3}, Key: [2]api.Key{{Kind: 1, Len: 8, Hi: 10 << 56}}}, {At: [2]int{3, 1}, Key: [2]api.Key{{Kind: 1, Len: 8, Hi: 10 << 56}, path("net.dc1")}}, {Key: [2]api.Key{{}, path("a")}}} {
			if got := Print(s, p); got != "" {
				t.Errorf("Print(%+v, %+v): %q", s, p, got)
			}
		}
	}
}

// someParts returns parts, right and wrong, few enough for all pairs of them.
func someParts() []string {
	return []string{
		"", "/", "10.0.0.0/8", "10.0.0.1/32", "0.0.0.0/0", "10.1.0.0/8", "10.0.0.0/20", "10.0.0.0/08", "10.0.0.0", "10.0.0/8", "10.0.0.0/33", "10.0.0.0/8/8",
		"::/0", "::1/128", "2001:DB8::/32", "2001:db8::1/32", "1::2::3/0", "2001:db8::/80",
		"/0", "/8", "net.dc1/5", "a.b.c/2", "a/8", "A/8", "a/3", "a.b.c.d.e.f.g.h.i/8", "a/99999999999999999999", "a/-1",
	}
}

// meantAll is what the chapter says of t in a valid space.
func meantAll(s api.Space, t string) (api.Prefix, api.Errno) {
	parts := strings.Split(t, ">")
	if len(parts) != s.N {
		return api.Prefix{}, api.ErrForm
	}
	var p api.Prefix
	for i, part := range parts {
		level, k, e := meant(s.D[i], part)
		if e != api.OK {
			return api.Prefix{}, e
		}
		p.At[i], p.Key[i] = level, k
	}
	return p, api.OK
}

// TestParse is of P11.2: no part, one, two and three, in spaces of one and of two dimensions.
func TestParse(t *testing.T) {
	l := append(someParts(), ">", ">>", ">>>", strings.Repeat(">", 1000))
	for _, a := range someParts() {
		l = append(l, ">"+a, a+">", ">"+a+">", a+">>"+a, ">>"+a, a+" > "+a, a+"<"+a, a+","+a)
		for _, b := range someParts() {
			l = append(l, a+">"+b, a+">"+b+">", a+">"+b+">"+a)
		}
	}
	for _, s := range rightSpaces() {
		found := 0
		for _, text := range l {
			p, e := Parse(s, text)
			if want, wrong := meantAll(s, text); p != want || e != wrong {
				t.Errorf("Parse(%+v, %q): %+v, %v; not %+v, %v", s, text, p, e, want, wrong)
			}
			if e == api.OK {
				found++
			}
		}
		if found == 0 {
			t.Errorf("no text is a prefix of %+v", s)
		}
	}
}

// TestParseErrors is of P11.2: which error is returned if there are two.
func TestParseErrors(t *testing.T) {
	both := two(four8, path3)
	for _, c := range []struct {
		s api.Space
		t string
		e api.Errno
	}{
		{both, "10.0.0.0/8>net.dc1/5", api.OK},
		{both, "10.1.0.0/8>A/8", api.ErrMatch},
		{both, "10.0.0/8>a.b.c/2", api.ErrForm},
		{both, "10.1.0.0/8>a.b.c/2", api.ErrMatch},
		{both, "10.0.0/8>A/8", api.ErrForm},
		{both, "10.0.0.0/8>A/8", api.ErrForm},
		{both, "10.0.0.0/8>a.b.c/2", api.ErrMatch},
		{both, "10.1.0.0/8>net.dc1/5", api.ErrMatch},
		{both, "10.0.0/8>net.dc1/5", api.ErrForm},
		{both, "10.1.0.0/8", api.ErrForm},
		{both, "10.0.0.0/8", api.ErrForm},
		{both, "10.1.0.0/8>", api.ErrMatch},
		{both, "10.0.0.0/8>", api.ErrForm},
		{both, ">net.dc1/5", api.ErrForm},
		{both, "10.1.0.0/8>net.dc1/5>", api.ErrForm},
		{both, "10.1.0.0/8>a.b.c/2>a/8", api.ErrForm},
		{both, "", api.ErrForm},
		{one(four8), "10.0.0.0/8", api.OK},
		{one(four8), "10.1.0.0/8", api.ErrMatch},
		{one(four8), "10.1.0.0/8>net.dc1/5", api.ErrForm},
		{one(four8), "10.1.0.0/8>", api.ErrForm},
		{one(four8), "", api.ErrForm},
		{one(path3), "/0", api.OK},
		{one(path3), "", api.ErrForm},
	} {
		p, e := Parse(c.s, c.t)
		if e != c.e || e != api.OK && p != (api.Prefix{}) {
			t.Errorf("Parse(%+v, %q): %+v, %v; not %v", c.s, c.t, p, e, c.e)
		}
	}
	for _, s := range wrongSpaces() {
		for _, text := range []string{"", ">", ">>", "10.0.0.0/8", "10.0.0.0/8>net.dc1/5", "10.1.0.0/8>A/8", "net.dc1/5", ">net.dc1/5", "::/0"} {
			if p, e := Parse(s, text); p != (api.Prefix{}) || e != api.ErrArg {
				t.Errorf("Parse(%+v, %q): %+v, %v", s, text, p, e)
			}
		}
	}
}

// TestPrintedParsesBack is of P11.3, for each prefix and each part.
func TestPrintedParsesBack(t *testing.T) {
	for _, s := range rightSpaces() {
		texts := map[string]api.Prefix{}
		for p := range rightPrefixes(s) {
			text := Print(s, p)
			if back, e := Parse(s, text); back != p || e != api.OK {
				t.Errorf("Parse(%+v, %q): %+v, %v", s, text, back, e)
			}
			if other, found := texts[text]; found && other != p {
				t.Errorf("%q is the text of %+v and of %+v", text, p, other)
			}
			texts[text] = p
		}
	}
	for _, d := range rightDims() {
		for _, p := range points(d) {
			if level, k, e := ParsePart(d, Part(d, p.level, p.k)); level != p.level || k != p.k || e != api.OK {
				t.Errorf("ParsePart(%+v, %q): %d, %+v, %v", d, Part(d, p.level, p.k), level, k, e)
			}
		}
	}
}

// TestParsedAgain is of P11.3 and P11.4: what was parsed and printed parses to the same, and is the same text where no dimension is of kind 2.
func TestParsedAgain(t *testing.T) {
	for _, s := range rightSpaces() {
		var l []string
		for _, a := range partTexts() {
			if _, _, e := meant(s.D[0], a); e == api.OK {
				l = append(l, a)
			}
		}
		if s.N == 2 {
			for n := range l {
				l[n] += ">" + []string{"::1/128", "0.0.0.0/0", "net.dc1/8", "/0", "2001:DB8::/32", "10.0.0.1/32"}[n%6]
			}
		}
		other := 0
		for _, text := range l {
			p, e := Parse(s, text)
			if e != api.OK {
				continue
			}
			printed := Print(s, p)
			if again, e := Parse(s, printed); again != p || e != api.OK {
				t.Errorf("Parse(%+v, %q): %+v, %v; %q was %+v", s, printed, again, e, text, p)
			}
			if printed != text {
				other++
			}
		}
		if (other > 0) != (s.D[0].Kind == 2 || s.D[1].Kind == 2) {
			t.Errorf("%+v: %d texts are not what is printed", s, other)
		}
	}
}

// TestRandom is of P11.3 and P11.4: prefixes of all spaces, made at random, and their texts with one byte changed.
func TestRandom(t *testing.T) {
	r := rand.New(rand.NewSource(11))
	randomKey := func(d api.Dim, n int) api.Key {
		switch d.Kind {
		case 1:
			return key.Cut(key.Four(r.Uint32()), n)
		case 2:
			return key.Cut(key.Six(wide.Wide{Hi: r.Uint64(), Lo: r.Uint64() & r.Uint64()}), n)
		}
		return key.Cut(path(strings.Repeat("ab.", r.Intn(8))+"c"), n)
	}
	for range 30000 {
		kinds := [2]int{1 + r.Intn(3), 1 + r.Intn(3)}
		s := two(api.Dim{Kind: kinds[0], Side: 1, Step: 1 + r.Intn(widths[kinds[0]])}, api.Dim{Kind: kinds[1], Side: 2, Step: 1 + r.Intn(widths[kinds[1]])})
		var p api.Prefix
		for i, d := range s.D {
			l := lengths(d)
			p.At[i] = r.Intn(len(l))
			p.Key[i] = randomKey(d, l[p.At[i]])
		}
		text := Print(s, p)
		if back, e := Parse(s, text); back != p || e != api.OK {
			t.Fatalf("Parse(%+v, %q): %+v, %v; not %+v", s, text, back, e, p)
		}
		b := []byte(text)
		b[r.Intn(len(b))] = "0189af/>.:_ "[r.Intn(12)]
		q, e := Parse(s, string(b))
		if want, wrong := meantAll(s, string(b)); q != want || e != wrong {
			t.Fatalf("Parse(%+v, %q): %+v, %v; not %+v, %v", s, b, q, e, want, wrong)
		}
		if e == api.OK && kinds[0] != 2 && kinds[1] != 2 && Print(s, q) != string(b) {
			t.Fatalf("Parse(%+v, %q) prints as %q", s, b, Print(s, q))
		}
	}
}

// TestHandmade is of P1: whatever the arguments, each function returns.
func TestHandmade(t *testing.T) {
	r := rand.New(rand.NewSource(111))
	edges := []int{math.MinInt, math.MinInt + 1, -129, -1, 0, 1, 1, 2, 2, 3, 3, 4, 8, 9, 32, 33, 128, 129, math.MaxInt - 1, math.MaxInt}
	pick := func() int { return edges[r.Intn(len(edges))] }
	handKey := func() api.Key {
		return api.Key{Kind: pick(), Len: pick(), Hi: r.Uint64() & uint64(pick()), Lo: uint64(pick()), Path: strings.Repeat(".a", r.Intn(10))}
	}
	handDim := func() api.Dim { return api.Dim{Kind: pick(), Side: pick(), Step: pick()} }
	texts := append(partTexts(), "\x00", "\xff/8", "é/8", strings.Repeat("a", 1<<16)+"/8", strings.Repeat("/", 1<<16), strings.Repeat("a/8>", 1<<12))
	for range 50000 {
		s := api.Space{N: pick(), D: [2]api.Dim{handDim(), handDim()}}
		p := api.Prefix{At: [2]int{pick(), pick()}, Key: [2]api.Key{handKey(), handKey()}}
		text := texts[r.Intn(len(texts))]
		if w := Word(p.Key[0]); w != "" && !key.Right(p.Key[0]) {
			t.Fatalf("Word(%+v): %q", p.Key[0], w)
		}
		if part := Part(s.D[0], p.At[0], p.Key[0]); part != "" {
			if level, k, e := ParsePart(s.D[0], part); level != p.At[0] || k != p.Key[0] || e != api.OK {
				t.Fatalf("ParsePart(%+v, %q): %d, %+v, %v", s.D[0], part, level, k, e)
			}
		}
		if level, k, e := ParsePart(s.D[0], text); e != api.OK && (level != 0 || k != (api.Key{})) {
			t.Fatalf("ParsePart(%+v, %q): %d, %+v, %v", s.D[0], text, level, k, e)
		}
		if (Print(s, p) != "") != prefix.Right(s, p) {
			t.Fatalf("Print(%+v, %+v): %q", s, p, Print(s, p))
		}
		if q, e := Parse(s, text); e != api.OK && q != (api.Prefix{}) || e == api.OK && !prefix.Right(s, q) {
			t.Fatalf("Parse(%+v, %q): %+v, %v", s, text, q, e)
		}
	}
}
