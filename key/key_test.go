package key

import (
	"fmt"
	"math"
	"math/rand"
	"regexp"
	"slices"
	"strings"
	"testing"

	"cribble/api"
	"cribble/wide"
)

// The definition of a path, as chapter 5 gives it, apart from the program.
var pathText = regexp.MustCompile(`\A([a-z0-9_]{1,16}(\.[a-z0-9_]{1,16}){0,7})?\z`)

const (
	eight = "a.b.c.d.e.f.g.h"
	ten   = 10 << 56
	all   = 1<<64 - 1
	upper = all - (1<<32 - 1)
)

// The widths of the kinds, apart from the program.
var widths = map[int]int{1: 32, 2: 128, 3: 8}

// elements returns the bits or labels of a key, one by one, and whether the definition calls it valid.
func elements(k api.Key) ([]string, bool) {
	switch k.Kind {
	case 1, 2:
		b := fmt.Sprintf("%064b%064b", k.Hi, k.Lo)
		if k.Path != "" || k.Len < 0 || k.Len > widths[k.Kind] || strings.Contains(b[k.Len:], "1") {
			return nil, false
		}
		return strings.Split(b[:k.Len], ""), true
	case 3:
		if k.Hi != 0 || k.Lo != 0 || !pathText.MatchString(k.Path) {
			return nil, false
		}
		var l []string
		if k.Path != "" {
			l = strings.Split(k.Path, ".")
		}
		return l, k.Len == len(l)
	}
	return nil, false
}

// made returns the key of a kind that has these bits or labels.
func made(kind int, l []string) api.Key {
	k := api.Key{Kind: kind, Len: len(l)}
	if kind == 3 {
		k.Path = strings.Join(l, ".")
		return k
	}
	for i, s := range l {
		switch {
		case s == "1" && i < 64:
			k.Hi |= 1 << (63 - i)
		case s == "1":
			k.Lo |= 1 << (127 - i)
		}
	}
	return k
}

// bitsOf returns the key of a kind that has these bits.
func bitsOf(kind int, b string) api.Key { return made(kind, strings.Split(b, "")) }

// path returns the key of a path.
func path(p string) api.Key {
	return api.Key{Kind: 3, Len: len(strings.FieldsFunc(p, func(r rune) bool { return r == '.' })), Path: p}
}

// rightKeys returns valid keys of all kinds: roots, full ones, and many that share their beginnings.
func rightKeys() []api.Key {
	l := []api.Key{
		{Kind: 1}, {Kind: 2}, {Kind: 3},
		{Kind: 1, Len: 32}, {Kind: 1, Len: 32, Hi: upper}, {Kind: 1, Len: 32, Hi: 1 << 32}, {Kind: 1, Len: 31}, {Kind: 1, Len: 31, Hi: 1 << 33},
		{Kind: 1, Len: 1}, {Kind: 1, Len: 1, Hi: 1 << 63}, {Kind: 1, Len: 2, Hi: 1 << 63}, {Kind: 1, Len: 2, Hi: 1 << 62}, {Kind: 1, Len: 2, Hi: 3 << 62},
		{Kind: 1, Len: 8, Hi: ten}, {Kind: 1, Len: 7, Hi: ten}, {Kind: 1, Len: 6, Hi: 8 << 56}, {Kind: 1, Len: 9, Hi: ten}, {Kind: 1, Len: 16, Hi: ten}, {Kind: 1, Len: 16, Hi: ten | 1<<48},
		{Kind: 1, Len: 24, Hi: ten | 1<<48}, {Kind: 1, Len: 32, Hi: ten | 1<<48 | 1<<40 | 1<<32}, {Kind: 1, Len: 8, Hi: 11 << 56},
		{Kind: 2, Len: 128}, {Kind: 2, Len: 128, Hi: all, Lo: all}, {Kind: 2, Len: 128, Lo: 1}, {Kind: 2, Len: 127, Lo: 2}, {Kind: 2, Len: 127}, {Kind: 2, Len: 128, Hi: 1 << 63},
		{Kind: 2, Len: 1, Hi: 1 << 63}, {Kind: 2, Len: 1}, {Kind: 2, Len: 32}, {Kind: 2, Len: 33}, {Kind: 2, Len: 63, Hi: 2}, {Kind: 2, Len: 64, Hi: 2}, {Kind: 2, Len: 64, Hi: 3}, {Kind: 2, Len: 65, Hi: 3, Lo: 1 << 63}, {Kind: 2, Len: 65, Hi: 3}, {Kind: 2, Len: 66, Hi: 3, Lo: 3 << 62},
		{Kind: 2, Len: 32, Hi: 0x20010db8 << 32}, {Kind: 2, Len: 48, Hi: 0x20010db8 << 32}, {Kind: 2, Len: 128, Hi: 0x20010db8 << 32, Lo: 1}, {Kind: 2, Len: 8, Hi: ten}, {Kind: 2, Len: 64, Hi: all}, {Kind: 2, Len: 65, Hi: all},
	}
	for _, p := range []string{"a", "b", "ab", "a.b", "a.a", "a.b.c", "a.b.d", "a.bc", "a.b.c.d", "a.b.c.d.e.f.g", eight, "a.b.c.d.e.f.g.i", "a0", "a_", "0", "9", "_", "z", "a.0", "a._", "a.a.a", "net", "net.dc1", "net.dc1.a", "net.dc1.b", "net.dc10", "net.dc1.rack_2", strings.Repeat("z", 16), strings.Repeat("0123456789abcdef.", 7) + "________________"} {
		l = append(l, path(p))
	}
	return l
}

// wrongKeys returns keys that are not valid.
func wrongKeys() []api.Key {
	return []api.Key{
		{}, {Len: 1}, {Path: "a"}, {Hi: 1}, {Lo: 1}, {Kind: 4}, {Kind: -1}, {Kind: 4, Len: 1, Path: "a"}, {Kind: 0, Len: 32}, {Kind: 5, Len: 8}, {Kind: math.MaxInt, Len: math.MaxInt}, {Kind: math.MinInt, Len: math.MinInt},
		{Kind: 1, Len: -1}, {Kind: 1, Len: 33}, {Kind: 1, Len: 64}, {Kind: 1, Len: 128}, {Kind: 1, Len: math.MinInt}, {Kind: 1, Len: math.MaxInt}, {Kind: 1, Len: -8, Hi: ten},
		{Kind: 2, Len: -1}, {Kind: 2, Len: 129}, {Kind: 2, Len: math.MinInt}, {Kind: 2, Len: math.MaxInt}, {Kind: 2, Len: 192, Hi: 1}, {Kind: 2, Len: 129, Hi: all, Lo: all},
		{Kind: 1, Hi: 1 << 63}, {Kind: 1, Len: 8, Hi: 1}, {Kind: 1, Len: 8, Hi: ten | 1<<55}, {Kind: 1, Len: 7, Hi: 11 << 56}, {Kind: 1, Len: 6, Hi: ten}, {Kind: 1, Len: 31, Hi: 1 << 32}, {Kind: 1, Len: 32, Hi: 1 << 31}, {Kind: 1, Len: 32, Hi: all}, {Kind: 1, Len: 32, Lo: 1}, {Kind: 1, Len: 32, Lo: 1 << 63}, {Kind: 1, Len: 0, Lo: 1}, {Kind: 1, Len: 33, Hi: 1 << 31}, {Kind: 1, Len: 128, Hi: all, Lo: all},
		{Kind: 2, Hi: 1 << 63}, {Kind: 2, Lo: 1}, {Kind: 2, Len: 63, Hi: 1}, {Kind: 2, Len: 64, Lo: 1 << 63}, {Kind: 2, Len: 127, Lo: 1}, {Kind: 2, Len: 127, Hi: all, Lo: all}, {Kind: 2, Len: 8, Hi: ten | 1<<55}, {Kind: 2, Len: 48, Hi: 0x20010db8 << 32, Lo: 1},
		{Kind: 1, Path: "a"}, {Kind: 1, Len: 8, Hi: ten, Path: "a"}, {Kind: 1, Len: 1, Path: "a"}, {Kind: 2, Path: "a"}, {Kind: 2, Len: 128, Path: "a.b"}, {Kind: 2, Len: 1, Path: "a"}, {Kind: 1, Len: 8, Hi: ten, Path: "."}, {Kind: 2, Path: "\x00"},
		{Kind: 3, Hi: 1}, {Kind: 3, Lo: 1}, {Kind: 3, Len: 1, Path: "a", Hi: 1 << 63}, {Kind: 3, Len: 1, Path: "a", Lo: 1}, {Kind: 3, Len: 8, Path: eight, Hi: 1, Lo: 1},
		{Kind: 3, Len: 1}, {Kind: 3, Len: -1}, {Kind: 3, Len: 8}, {Kind: 3, Len: 9}, {Kind: 3, Path: "a"}, {Kind: 3, Len: 2, Path: "a"}, {Kind: 3, Len: -1, Path: "a"}, {Kind: 3, Len: 1, Path: "a.b"}, {Kind: 3, Len: 3, Path: "a.b"}, {Kind: 3, Len: 7, Path: eight}, {Kind: 3, Len: 9, Path: eight}, {Kind: 3, Len: math.MaxInt, Path: eight}, {Kind: 3, Len: math.MinInt, Path: "a"},
		{Kind: 3, Path: "A"}, {Kind: 3, Len: 1, Path: "A"}, {Kind: 3, Len: 0, Path: "."}, {Kind: 3, Len: 1, Path: "."}, {Kind: 3, Len: 2, Path: "."}, {Kind: 3, Len: 1, Path: "a."}, {Kind: 3, Len: 2, Path: "a."}, {Kind: 3, Path: ".a"}, {Kind: 3, Len: 1, Path: ".a"}, {Kind: 3, Len: 3, Path: "a..b"}, {Kind: 3, Len: 2, Path: "a..b"}, {Kind: 3, Path: "a..b"},
		{Kind: 3, Len: 9, Path: eight + ".i"}, {Kind: 3, Len: 8, Path: eight + ".i"}, {Kind: 3, Path: eight + ".i"}, {Kind: 3, Len: 1, Path: strings.Repeat("a", 17)}, {Kind: 3, Path: strings.Repeat("a", 17)}, {Kind: 3, Len: 1, Path: "\xff"}, {Kind: 3, Path: "a b"}, {Kind: 3, Len: 1, Path: "a\x00"},
		{Kind: 3, Len: 32}, {Kind: 3, Len: 8, Hi: ten}, {Kind: 0, Len: 8, Hi: ten}, {Kind: 4, Len: 8, Hi: ten}, {Kind: 3 | 1<<16, Len: 1, Path: "a"}, {Kind: -3, Len: 1, Path: "a"},
	}
}

// numbers returns lengths of all sorts.
func numbers() []int {
	l := []int{math.MinInt, math.MinInt + 1, math.MinInt32, -129, -1000, math.MaxInt32, math.MaxInt - 1, math.MaxInt, 1000}
	for n := -10; n <= 200; n++ {
		l = append(l, n)
	}
	return l
}

// TestPool checks that the keys of these tests are what they are said to be.
func TestPool(t *testing.T) {
	for _, k := range rightKeys() {
		if l, ok := elements(k); !ok || made(k.Kind, l) != k {
			t.Errorf("%+v: a wrong key among the right ones", k)
		}
	}
	for _, k := range wrongKeys() {
		if _, ok := elements(k); ok {
			t.Errorf("%+v: a right key among the wrong ones", k)
		}
	}
}

// TestWidth is of P7.1.
func TestWidth(t *testing.T) {
	for kind := -300; kind <= 300; kind++ {
		if n := Width(kind); n != widths[kind] {
			t.Errorf("Width(%d): %d", kind, n)
		}
	}
	for _, kind := range []int{math.MinInt, math.MaxInt, math.MaxInt - 1, math.MaxInt32} {
		if n := Width(kind); n != 0 {
			t.Errorf("Width(%d): %d", kind, n)
		}
	}
}

// TestRight is of P7.1.
func TestRight(t *testing.T) {
	for _, k := range rightKeys() {
		if !Right(k) {
			t.Errorf("Right(%+v): false", k)
		}
	}
	for _, k := range wrongKeys() {
		if Right(k) {
			t.Errorf("Right(%+v): true", k)
		}
	}
}

// TestRightBits is of P7.1: one bit at each place, with each length.
func TestRightBits(t *testing.T) {
	for kind := range 6 {
		for n := -2; n <= 131; n++ {
			for i := range 129 {
				k := api.Key{Kind: kind, Len: n}
				if i < 128 {
					b := wide.Left(wide.Of(1), 127-i)
					k.Hi, k.Lo = b.Hi, b.Lo
				}
				if _, ok := elements(k); Right(k) != ok {
					t.Fatalf("Right(%+v): %v", k, !ok)
				}
			}
		}
	}
}

// TestRightPaths is of P7.1: each number of labels, with each length.
func TestRightPaths(t *testing.T) {
	for labels := range 12 {
		p := strings.TrimSuffix(strings.Repeat("a.", labels), ".")
		for n := -2; n <= 14; n++ {
			k := api.Key{Kind: 3, Len: n, Path: p}
			if ok := labels <= 8 && n == labels; Right(k) != ok {
				t.Errorf("Right(%+v): %v", k, !ok)
			}
		}
	}
}

// TestRoot is of P7.1.
func TestRoot(t *testing.T) {
	for kind := -300; kind <= 300; kind++ {
		want := api.Key{}
		if kind >= 1 && kind <= 3 {
			want.Kind = kind
		}
		if k := Root(kind); k != want || Right(k) != (kind >= 1 && kind <= 3) {
			t.Errorf("Root(%d): %+v", kind, k)
		}
	}
	for _, kind := range []int{math.MinInt, math.MaxInt} {
		if k := Root(kind); k != (api.Key{}) {
			t.Errorf("Root(%d): %+v", kind, k)
		}
	}
}

// TestFour is of P7.1.
func TestFour(t *testing.T) {
	r := rand.New(rand.NewSource(7))
	for i := range 2000 {
		a := r.Uint32()
		if i < 32 {
			a = 1 << i
		}
		k := Four(a)
		if k != bitsOf(1, fmt.Sprintf("%032b", a)) || !Right(k) {
			t.Errorf("Four(%d): %+v", a, k)
		}
	}
	for a, hi := range map[uint32]uint64{0: 0, 1: 1 << 32, 167837953: ten | 1<<48 | 1<<40 | 1<<32, math.MaxUint32: math.MaxUint32 << 32} {
		if k := Four(a); k != (api.Key{Kind: 1, Len: 32, Hi: hi}) {
			t.Errorf("Four(%d): %+v", a, k)
		}
	}
}

// TestSix is of P7.1.
func TestSix(t *testing.T) {
	r := rand.New(rand.NewSource(7))
	l := []wide.Wide{{}, {Lo: 1}, {Hi: 1}, {Hi: all, Lo: all}, {Hi: 0x20010db8 << 32, Lo: 1}}
	for range 500 {
		l = append(l, wide.Wide{Hi: r.Uint64(), Lo: r.Uint64()})
	}
	for _, a := range l {
		k := Six(a)
		if k != (api.Key{Kind: 2, Len: 128, Hi: a.Hi, Lo: a.Lo}) || !Right(k) {
			t.Errorf("Six(%v): %+v", a, k)
		}
	}
}

// TestPath is of P7.1.
func TestPath(t *testing.T) {
	for p, n := range map[string]int{"": 0, "a": 1, "_": 1, "a.b": 2, "net.dc1.a": 3, "a.b.c.d.e.f.g": 7, eight: 8, strings.Repeat("z", 16): 1} {
		k, e := Path(p)
		if e != api.OK || k != (api.Key{Kind: 3, Len: n, Path: p}) || !Right(k) {
			t.Errorf("Path(%q): %+v, %v", p, k, e)
		}
	}
	for _, p := range []string{".", "a.", ".a", "a..b", "A", "a b", " ", "a-b", eight + ".i", eight + ".", strings.Repeat("z", 17), "\xff", "a\n", "é", strings.Repeat(".", 1000)} {
		if k, e := Path(p); e != api.ErrForm || k != (api.Key{}) {
			t.Errorf("Path(%q): %+v, %v", p, k, e)
		}
	}
}

// TestCut is of P7.2.
func TestCut(t *testing.T) {
	for _, k := range rightKeys() {
		l, _ := elements(k)
		for _, n := range numbers() {
			want := made(k.Kind, l[:max(0, min(n, len(l)))])
			if c := Cut(k, n); c != want || !Right(c) {
				t.Errorf("Cut(%+v, %d): %+v, not %+v", k, n, c, want)
			}
		}
	}
	for _, k := range wrongKeys() {
		for _, n := range numbers() {
			if c := Cut(k, n); c != (api.Key{}) {
				t.Errorf("Cut(%+v, %d): %+v", k, n, c)
			}
		}
	}
}

// TestCutExamples is of P7.2.
func TestCutExamples(t *testing.T) {
	if k := Cut(Four(167837953), 8); k != (api.Key{Kind: 1, Len: 8, Hi: 720575940379279360}) {
		t.Errorf("10.1.1.1 cut to 8 bits: %+v", k)
	}
	if k := Cut(path("net.dc1.a"), 2); k != path("net.dc1") {
		t.Errorf("net.dc1.a cut to 2 labels: %+v", k)
	}
	if k := Cut(Six(wide.Wide{Hi: all, Lo: all}), 65); k != (api.Key{Kind: 2, Len: 65, Hi: all, Lo: 1 << 63}) {
		t.Errorf("ones cut to 65 bits: %+v", k)
	}
	for kind := 1; kind <= 3; kind++ {
		if k := Cut(Root(kind), 5); k != Root(kind) {
			t.Errorf("the root of kind %d cut: %+v", kind, k)
		}
	}
}

// covers is what the chapter calls covering, by elements.
func covers(a, b api.Key) bool {
	l, okA := elements(a)
	m, okB := elements(b)
	return okA && okB && a.Kind == b.Kind && len(l) <= len(m) && slices.Equal(l, m[:len(l)])
}

// TestOver is of P7.2.
func TestOver(t *testing.T) {
	pool := append(rightKeys(), wrongKeys()...)
	for _, a := range pool {
		for _, b := range pool {
			if ok := Over(a, b); ok != covers(a, b) {
				t.Errorf("Over(%+v, %+v): %v", a, b, ok)
			}
		}
	}
	if Over(path("a"), path("ab")) || Over(path("net.dc1"), path("net.dc10")) {
		t.Error("a path covers one of which it is no beginning by labels")
	}
}

// met is the longest common beginning of two keys, by elements.
func met(a, b api.Key) (api.Key, bool) {
	l, okA := elements(a)
	m, okB := elements(b)
	if !okA || !okB || a.Kind != b.Kind {
		return api.Key{}, false
	}
	n := 0
	for n < min(len(l), len(m)) && l[n] == m[n] {
		n++
	}
	return made(a.Kind, l[:n]), true
}

// TestMeet is of P7.2.
func TestMeet(t *testing.T) {
	pool := append(rightKeys(), wrongKeys()...)
	for _, a := range pool {
		for _, b := range pool {
			want, right := met(a, b)
			if k, ok := Meet(a, b); k != want || ok != right {
				t.Errorf("Meet(%+v, %+v): %+v, %v, not %+v, %v", a, b, k, ok, want, right)
			}
		}
	}
	if k, ok := Meet(path("net.dc1.a"), path("net.dc1.b")); !ok || k != (api.Key{Kind: 3, Len: 2, Path: "net.dc1"}) {
		t.Errorf("Meet of net.dc1.a and net.dc1.b: %+v, %v", k, ok)
	}
}

// before returns keys each of which is ordered before the next one.
func before() []api.Key {
	return []api.Key{
		{Kind: math.MinInt, Len: 5, Hi: 5, Lo: 5, Path: "z"}, {Kind: -1}, {Len: math.MinInt}, {Len: -1}, {}, {Len: 1}, {Len: math.MaxInt}, {Path: "\x00", Len: -5}, {Path: "a"}, {Lo: 1}, {Hi: 1, Len: -1},
		{Kind: 1, Len: -1}, {Kind: 1}, {Kind: 1, Len: 1}, {Kind: 1, Len: 32}, {Kind: 1, Len: 33}, {Kind: 1, Path: "a"}, {Kind: 1, Path: "b", Len: -7}, {Kind: 1, Lo: 1, Len: -3}, {Kind: 1, Lo: 1 << 63}, {Kind: 1, Lo: all}, {Kind: 1, Hi: 1}, {Kind: 1, Hi: 1, Path: "z"}, {Kind: 1, Hi: 1, Lo: 1},
		{Kind: 1, Len: 7, Hi: ten}, {Kind: 1, Len: 8, Hi: ten}, {Kind: 1, Len: 6, Hi: 11 << 56}, {Kind: 1, Hi: 1 << 63}, {Kind: 1, Hi: all}, {Kind: 1, Hi: all, Lo: all, Path: "zz", Len: 99},
		{Kind: 2}, {Kind: 2, Len: 128, Lo: 1}, {Kind: 2, Len: 1, Lo: 2}, {Kind: 2, Len: 128, Hi: all, Lo: all},
		{Kind: 3, Len: -1}, {Kind: 3}, {Kind: 3, Len: 9}, {Kind: 3, Path: "\x00"}, {Kind: 3, Path: "."}, {Kind: 3, Path: "0"}, {Kind: 3, Path: "A"}, {Kind: 3, Path: "_"}, {Kind: 3, Len: 0, Path: "a"}, {Kind: 3, Len: 1, Path: "a"}, {Kind: 3, Len: 2, Path: "a"}, {Kind: 3, Len: 1, Path: "a\x00"}, {Kind: 3, Len: 2, Path: "a.b"}, {Kind: 3, Len: 3, Path: "a.b.c"}, {Kind: 3, Len: 1, Path: "a0"}, {Kind: 3, Len: 1, Path: "a_"}, {Kind: 3, Len: 1, Path: "aa"}, {Kind: 3, Len: 1, Path: "b"}, {Kind: 3, Len: 1, Path: "\x7f"}, {Kind: 3, Path: "é"}, {Kind: 3, Path: "\xff"},
		{Kind: 3, Lo: 1}, {Kind: 3, Lo: 1, Path: "a"}, {Kind: 3, Hi: 1}, {Kind: 4}, {Kind: math.MaxInt, Len: math.MinInt},
	}
}

// TestCmp is of P7.3.
func TestCmp(t *testing.T) {
	l := before()
	for i, a := range l {
		for j, b := range l {
			want := 0
			switch {
			case i < j:
				want = -1
			case i > j:
				want = 1
			}
			if n := Cmp(a, b); n != want {
				t.Errorf("Cmp(%+v, %+v): %d, not %d", a, b, n, want)
			}
		}
	}
}

// TestCmpEqual is of P7.3: keys are equal if and only if all their fields are.
func TestCmpEqual(t *testing.T) {
	pool := append(rightKeys(), wrongKeys()...)
	for _, a := range pool {
		for _, b := range pool {
			if n := Cmp(a, b); (n == 0) != (a == b) || n != -Cmp(b, a) {
				t.Errorf("Cmp(%+v, %+v): %d", a, b, n)
			}
		}
	}
}

// TestUp is of P7.3.
func TestUp(t *testing.T) {
	for _, k := range rightKeys() {
		l, _ := elements(k)
		var want []api.Key
		for n := len(l); n >= 0; n-- {
			want = append(want, made(k.Kind, l[:n]))
		}
		up := Up(k)
		// The second round finds what the first one found.
		for range 2 {
			if got := slices.Collect(up); !slices.Equal(got, want) {
				t.Errorf("Up(%+v): %+v", k, got)
			}
		}
	}
	for _, k := range wrongKeys() {
		for x := range Up(k) {
			t.Errorf("Up(%+v): %+v", k, x)
		}
	}
}

// TestUpStops is of P7.3: the iteration is stopped after each element.
func TestUpStops(t *testing.T) {
	for _, k := range rightKeys() {
		whole := slices.Collect(Up(k))
		for n := 1; n <= len(whole); n++ {
			var got []api.Key
			Up(k)(func(x api.Key) bool {
				got = append(got, x)
				return len(got) < n
			})
			if !slices.Equal(got, whole[:n]) {
				t.Errorf("Up(%+v), stopped after %d: %+v", k, n, got)
			}
		}
	}
}

// TestCovering is of P7.4: covering is a partial order, and of two keys that cover a third one, one covers the other.
func TestCovering(t *testing.T) {
	pool := rightKeys()
	for _, a := range pool {
		if !Over(a, a) {
			t.Errorf("%+v does not cover itself", a)
		}
		for _, b := range pool {
			if a != b && Over(a, b) && Over(b, a) {
				t.Errorf("%+v and %+v cover each other", a, b)
			}
			for _, c := range pool {
				if Over(a, b) && Over(b, c) && !Over(a, c) {
					t.Errorf("%+v covers %+v, which covers %+v, which the first one does not cover", a, b, c)
				}
				if Over(a, c) && Over(b, c) && !Over(a, b) && !Over(b, a) {
					t.Errorf("%+v and %+v cover %+v, and neither covers the other", a, b, c)
				}
			}
		}
	}
}

// TestMeeting is of P7.5: Meet is commutative, covers both, and is covered by every key that covers both.
func TestMeeting(t *testing.T) {
	pool := rightKeys()
	for _, a := range pool {
		for _, b := range pool {
			m, ok := Meet(a, b)
			back, okBack := Meet(b, a)
			if m != back || ok != okBack || ok != (a.Kind == b.Kind) {
				t.Errorf("Meet(%+v, %+v): %+v, %v, and the other way %+v, %v", a, b, m, ok, back, okBack)
			}
			if ok && (!Over(m, a) || !Over(m, b)) {
				t.Errorf("Meet(%+v, %+v): %+v does not cover both", a, b, m)
			}
			for _, c := range pool {
				if Over(c, a) && Over(c, b) && !Over(c, m) {
					t.Errorf("%+v covers %+v and %+v, but not their meet", c, a, b)
				}
			}
		}
	}
}

// TestOrdering is of P7.6: a key is ordered before all others that it covers, and covers all valid ones between it and those.
func TestOrdering(t *testing.T) {
	pool := rightKeys()
	for _, a := range pool {
		for _, b := range pool {
			if !Over(a, b) {
				continue
			}
			if a != b && Cmp(a, b) != -1 {
				t.Errorf("%+v is not ordered before %+v", a, b)
			}
			for _, c := range pool {
				if Cmp(a, c) <= 0 && Cmp(c, b) <= 0 && !Over(a, c) {
					t.Errorf("%+v does not cover %+v, which is ordered between it and %+v", a, c, b)
				}
			}
		}
	}
}

// handmade returns a key whose fields have been chosen by lot, valid or not.
func handmade(r *rand.Rand) api.Key {
	words := []uint64{0, 0, 0, 1, 1 << 31, 1 << 32, 1 << 63, ten, all, upper, r.Uint64()}
	paths := []string{"", "", "", "a", "a.b", "a.b.c", eight, eight + ".i", ".", "a.", "A", "\xff"}
	return api.Key{
		Kind: r.Intn(7) - 1,
		Len:  []int{0, 1, 2, 3, 8, 9, 32, 33, 64, 128, 129, -1, math.MinInt, math.MaxInt, r.Intn(140)}[r.Intn(15)],
		Hi:   words[r.Intn(len(words))],
		Lo:   words[r.Intn(len(words))],
		Path: paths[r.Intn(len(paths))],
	}
}

// TestHandmade is of P1 and P7.1 to P7.3: whatever the keys, each function returns, and returns what the definitions say.
func TestHandmade(t *testing.T) {
	r := rand.New(rand.NewSource(71))
	n := numbers()
	for range 50000 {
		a, b := handmade(r), handmade(r)
		if r.Intn(2) == 0 {
			b.Kind, b.Hi, b.Lo = a.Kind, a.Hi, a.Lo
		}
		l, ok := elements(a)
		if Right(a) != ok || Over(a, b) != covers(a, b) {
			t.Fatalf("Right or Over of %+v and %+v", a, b)
		}
		m, right := Meet(a, b)
		if want, ok := met(a, b); m != want || right != ok {
			t.Fatalf("Meet(%+v, %+v): %+v, %v", a, b, m, right)
		}
		if Cmp(a, b) != -Cmp(b, a) {
			t.Fatalf("Cmp of %+v and %+v", a, b)
		}
		want, at := api.Key{}, n[r.Intn(len(n))]
		if ok {
			want = made(a.Kind, l[:max(0, min(at, len(l)))])
		}
		if k := Cut(a, at); k != want {
			t.Fatalf("Cut(%+v, %d): %+v", a, at, k)
		}
		if up := slices.Collect(Up(a)); ok && len(up) != a.Len+1 || !ok && len(up) != 0 {
			t.Fatalf("Up(%+v): %+v", a, up)
		}
	}
}
