package label

import (
	"math"
	"math/rand"
	"regexp"
	"slices"
	"strings"
	"testing"

	"cribble/api"
)

// Definitions of a label and of a path, as the chapter gives them, apart from the program.
var (
	labelText = regexp.MustCompile(`\A[a-z0-9_]{1,16}\z`)
	pathText  = regexp.MustCompile(`\A([a-z0-9_]{1,16}(\.[a-z0-9_]{1,16}){0,7})?\z`)
)

var (
	long  = strings.Repeat("a", 16)
	eight = "a.b.c.d.e.f.g.h"
	nine  = eight + ".i"
	full  = strings.Repeat("_9z8y7x6w5v4u3t2.", 7) + "_9z8y7x6w5v4u3t2"
)

// rightPaths returns paths, from the empty one to the longest.
func rightPaths() []string {
	return []string{
		"", "a", "z", "0", "9", "_", "__", "a_", "_a", "007", long, "net", "net.dc1", "net.dc1.rack2", "net.dc1.rack_2", "a.a.a", "a.b.c", "a.b.d", "ab.c", "a.bc", "a.b", "ab",
		"0.0.0.0", "_._", "a." + long, long + ".a", long + "." + long, "a.b.c.d.e.f.g", eight, "a.b.c.d.e.f.g.a", full,
	}
}

// wrongPaths returns strings that are not paths.
func wrongPaths() []string {
	return []string{
		".", "..", "........", "a.", ".a", "a..b", "a.b.", ".a.b", "a...b", eight + ".", "." + eight, "a.b.c.d.e.f.g.", "a.b..d",
		long + "a", "a." + long + "a", long + "a.a", strings.Repeat("a", 17) + "." + strings.Repeat("b", 17), nine, nine + ".j", full + ".a", strings.Repeat("a.", 1000) + "a", strings.Repeat(".", 10000), strings.Repeat("a", 10000),
		"A", "Z", "net.Dc1", "NET", "a b", " a", "a ", " ", "a. b", "a .b", "\t", "a\n", "\na", "a\x00", "\x00",
		"a-b", "-", "+", "a+", "+1", "-1", "a/b", "a:b", "a,b", "a=b", "a`", "{", "@", "[", "^", "a*", "a.*", "%", "\"a\"",
		"\u00e9", "a\u00e9", "\u0430", "a.\u0431", "\u0661", "\uff41", "a\u3002b", "\xff", "a\x80", "\xe1", "a.\xff", "a\u00a0", "\u017f", "\u212a",
	}
}

// TestIsLabel is of P5.1.
func TestIsLabel(t *testing.T) {
	for _, s := range []string{"a", "z", "0", "9", "_", "dc1", "rack_2", "0_a", "aaaaaaaaaaaaaaa", long, "________________", "0123456789abcdef"} {
		if !IsLabel(s) {
			t.Errorf("IsLabel(%q): false", s)
		}
	}
	for _, s := range []string{"", ".", "a.b", "a.", ".a", long + "a", strings.Repeat("_", 17), strings.Repeat("a", 1<<20)} {
		if IsLabel(s) {
			t.Errorf("IsLabel(%q): true", s)
		}
	}
	for _, s := range wrongPaths() {
		if IsLabel(s) {
			t.Errorf("IsLabel(%q): true", s)
		}
	}
}

// TestBytesOfLabels is of P5.1: each byte, alone and at every place of a label.
func TestBytesOfLabels(t *testing.T) {
	for b := range 256 {
		want := strings.IndexByte("abcdefghijklmnopqrstuvwxyz0123456789_", byte(b)) >= 0
		if s := string([]byte{byte(b)}); IsLabel(s) != want {
			t.Errorf("IsLabel(%q): %v", s, !want)
		}
		for at := range len(long) {
			s := []byte(long)
			s[at] = byte(b)
			if IsLabel(string(s)) != want {
				t.Errorf("IsLabel(%q): %v", s, !want)
			}
		}
	}
}

// TestRight is of P5.1.
func TestRight(t *testing.T) {
	for _, p := range rightPaths() {
		if !Right(p) {
			t.Errorf("Right(%q): false", p)
		}
	}
	for _, p := range wrongPaths() {
		if Right(p) {
			t.Errorf("Right(%q): true", p)
		}
	}
}

// TestSplit is of P5.1.
func TestSplit(t *testing.T) {
	want := map[string][]string{
		"": nil, "a": {"a"}, long: {long}, "net.dc1.rack_2": {"net", "dc1", "rack_2"}, "a.a": {"a", "a"}, eight: {"a", "b", "c", "d", "e", "f", "g", "h"},
	}
	for p, l := range want {
		got, e := Split(p)
		if !slices.Equal(got, l) || e != api.OK {
			t.Errorf("Split(%q): %q, %v", p, got, e)
		}
		if cap(got) != len(got) {
			t.Errorf("Split(%q): %d labels, memory for %d", p, len(got), cap(got))
		}
	}
	for _, p := range wrongPaths() {
		if l, e := Split(p); len(l) != 0 || e != api.ErrForm {
			t.Errorf("Split(%q): %q, %v", p, l, e)
		}
	}
}

// TestSplitIsNew is of P5.1: what a caller does to a result is not seen in the next one.
func TestSplitIsNew(t *testing.T) {
	l, _ := Split("net.dc1")
	l[0] = "changed"
	if m, e := Split("net.dc1"); !slices.Equal(m, []string{"net", "dc1"}) || e != api.OK {
		t.Errorf("Split: %q, %v", m, e)
	}
}

// TestJoin is of P5.1.
func TestJoin(t *testing.T) {
	right := []struct {
		l []string
		p string
	}{
		{nil, ""}, {[]string{}, ""}, {[]string{"a"}, "a"}, {[]string{long}, long}, {[]string{"net", "dc1", "rack2"}, "net.dc1.rack2"}, {[]string{"a", "a"}, "a.a"}, {strings.Split(eight, "."), eight}, {strings.Split(full, "."), full},
	}
	for _, c := range right {
		before := slices.Clone(c.l)
		if p, e := Join(c.l); p != c.p || e != api.OK {
			t.Errorf("Join(%q): %q, %v", c.l, p, e)
		}
		if !slices.Equal(c.l, before) {
			t.Errorf("Join changed %q to %q", before, c.l)
		}
	}
}

// TestJoinWrong is of P5.1: an element that is not a label is named ahead of too many labels.
func TestJoinWrong(t *testing.T) {
	labels := strings.Split(nine, ".")
	wrong := []struct {
		l []string
		e api.Errno
	}{
		{labels, api.ErrLong}, {append(slices.Clone(labels), "j"), api.ErrLong}, {slices.Repeat([]string{long}, 1000), api.ErrLong},
		{[]string{""}, api.ErrForm}, {[]string{"a", ""}, api.ErrForm}, {[]string{"", "a"}, api.ErrForm}, {[]string{"a", "", "b"}, api.ErrForm}, {[]string{"", ""}, api.ErrForm},
		{[]string{"a", "b.c"}, api.ErrForm}, {[]string{eight}, api.ErrForm}, {[]string{long + "a"}, api.ErrForm}, {[]string{"A"}, api.ErrForm}, {[]string{"a", " "}, api.ErrForm}, {[]string{"\xff"}, api.ErrForm}, {[]string{"\u00e9"}, api.ErrForm},
		{append(slices.Clone(labels), ""), api.ErrForm}, {append([]string{"A"}, labels...), api.ErrForm}, {append(slices.Clone(labels), "a.b"), api.ErrForm},
	}
	for at := range labels {
		l := slices.Clone(labels)
		l[at] = long + "a"
		wrong = append(wrong, struct {
			l []string
			e api.Errno
		}{l, api.ErrForm})
	}
	for _, c := range wrong {
		if p, e := Join(c.l); p != "" || e != c.e {
			t.Errorf("Join(%q): %q, %v, want %v", c.l, p, e, c.e)
		}
	}
}

// TestJoinReadsLength is of P5.1: what lies beyond the length of a slice is not read.
func TestJoinReadsLength(t *testing.T) {
	l := append(strings.Split(eight, "."), "A", "B")
	if p, e := Join(l[:2]); p != "a.b" || e != api.OK {
		t.Errorf("Join: %q, %v", p, e)
	}
	if p, e := Join(l[:0]); p != "" || e != api.OK {
		t.Errorf("Join: %q, %v", p, e)
	}
}

// TestLen is of P5.2.
func TestLen(t *testing.T) {
	want := map[string]int{"": 0, "a": 1, long: 1, "a.b": 2, "net.dc1.rack_2": 3, "a.b.c.d.e.f.g": 7, eight: 8, full: 8}
	for p, n := range want {
		if Len(p) != n {
			t.Errorf("Len(%q): %d", p, Len(p))
		}
	}
	for _, p := range wrongPaths() {
		if Len(p) != 0 {
			t.Errorf("Len(%q): %d", p, Len(p))
		}
	}
}

// amounts returns numbers of labels, from the least int to the greatest.
func amounts() []int {
	l := []int{math.MinInt, math.MinInt + 1, math.MinInt32, math.MaxInt32, math.MaxInt - 1, math.MaxInt}
	for n := -3; n <= 12; n++ {
		l = append(l, n)
	}
	return l
}

// TestTop is of P5.2.
func TestTop(t *testing.T) {
	want := []struct {
		p   string
		n   int
		top string
	}{
		{"net.dc1.rack2", 2, "net.dc1"}, {"net.dc1.rack2", 1, "net"}, {"net.dc1.rack2", 3, "net.dc1.rack2"}, {"net.dc1.rack2", 4, "net.dc1.rack2"}, {"net.dc1.rack2", 0, ""}, {"net.dc1.rack2", -1, ""},
		{"a", 1, "a"}, {"a", 5, "a"}, {"a", 0, ""}, {"", 0, ""}, {"", 1, ""}, {"", 8, ""}, {eight, 7, "a.b.c.d.e.f.g"}, {eight, 8, eight}, {eight, 9, eight}, {eight, 1, "a"},
	}
	for _, c := range want {
		if got := Top(c.p, c.n); got != c.top {
			t.Errorf("Top(%q, %d): %q", c.p, c.n, got)
		}
	}
	for _, n := range amounts() {
		for _, p := range rightPaths() {
			top := ""
			if p != "" {
				l := strings.Split(p, ".")
				top = strings.Join(l[:max(0, min(n, len(l)))], ".")
			}
			if got := Top(p, n); got != top {
				t.Errorf("Top(%q, %d): %q", p, n, got)
			}
		}
		for _, p := range wrongPaths() {
			if got := Top(p, n); got != "" {
				t.Errorf("Top(%q, %d): %q", p, n, got)
			}
		}
	}
}

// TestSame is of P5.2.
func TestSame(t *testing.T) {
	want := []struct {
		a, b string
		n    int
	}{
		{"", "", 0}, {"a", "", 0}, {"a", "a", 1}, {"a", "b", 0}, {"a", "ab", 0}, {"a.b.c", "a.b.d", 2}, {"a.b.c", "a.b.c", 3}, {"a.b", "a.b.c", 2}, {"a", "a.a", 1}, {"ab.c", "a.bc", 0}, {"a.b", "a.bc", 1}, {"a.b.c", "a.bc", 1},
		{"net.dc1.a", "net.dc1.b", 2}, {"net.dc1", "net.dc10", 1}, {"x.b.c", "y.b.c", 0}, {"a.x.c", "a.y.c", 1}, {eight, eight, 8}, {eight, "a.b.c.d.e.f.g.i", 7}, {eight, "b.b.c.d.e.f.g.h", 0}, {full, full, 8},
		{long, long, 1}, {long, "aaaaaaaaaaaaaaa", 0}, {"a", "A", 0}, {"a.b", "a.", 0}, {"a.b", "a.B", 0}, {"a..b", "a..b", 0}, {"a.b", "a..b", 0}, {nine, nine, 0}, {eight, nine, 0}, {"a.", "a.", 0}, {".", ".", 0}, {".a", ".a", 0},
	}
	for _, c := range want {
		if Same(c.a, c.b) != c.n || Same(c.b, c.a) != c.n {
			t.Errorf("Same of %q and %q: %d, %d, want %d", c.a, c.b, Same(c.a, c.b), Same(c.b, c.a), c.n)
		}
	}
	for _, p := range wrongPaths() {
		for _, q := range append(rightPaths(), p) {
			if Same(p, q) != 0 || Same(q, p) != 0 {
				t.Errorf("Same of %q and %q: %d, %d", p, q, Same(p, q), Same(q, p))
			}
		}
	}
}

// randomPath returns up to ten parts, of which some are not labels.
func randomPath(source *rand.Rand) string {
	words := []string{"a", "b", "ab", "a_", "0", long, "net", "a", "b"}
	if source.Intn(4) == 0 {
		words = append(words, "", "A", long+"a", " ", "\xff", "a-")
	}
	l := make([]string, source.Intn(10))
	for i := range l {
		l[i] = words[source.Intn(len(words))]
	}
	return strings.Join(l, ".")
}

// TestAgainstDefinition is of P5.1 and P5.3: strings from everywhere, held against the definition.
func TestAgainstDefinition(t *testing.T) {
	source := rand.New(rand.NewSource(5))
	paths := 0
	for range 20000 {
		p := randomPath(source)
		if IsLabel(p) != labelText.MatchString(p) || Right(p) != pathText.MatchString(p) {
			t.Errorf("%q: IsLabel %v, Right %v", p, IsLabel(p), Right(p))
		}
		l, e := Split(p)
		if (e == api.OK) != Right(p) || len(l) != Len(p) {
			t.Errorf("Split(%q): %q, %v", p, l, e)
		}
		if e == api.OK {
			paths++
		}
	}
	if paths < 2000 || paths > 18000 {
		t.Errorf("%d of the strings are paths", paths)
	}
}

// TestInverse is of P5.3: Split and Join.
func TestInverse(t *testing.T) {
	source := rand.New(rand.NewSource(53))
	list := rightPaths()
	for range 2000 {
		list = append(list, randomPath(source))
	}
	for _, p := range list {
		l, e := Split(p)
		if e != api.OK {
			continue
		}
		if q, e := Join(l); q != p || e != api.OK {
			t.Errorf("Join of the labels of %q: %q, %v", p, q, e)
		}
	}
	for range 2000 {
		l := make([]string, source.Intn(9))
		for i := range l {
			l[i] = []string{"a", "b", "c_", "0", long}[source.Intn(5)]
		}
		p, e := Join(l)
		if m, f := Split(p); !slices.Equal(l, m) || e != api.OK || f != api.OK {
			t.Errorf("Split of Join(%q): %q, %v, %v", l, m, e, f)
		}
	}
}

// TestTops is of P5.3: Top of a Top, and the Tops by Same.
func TestTops(t *testing.T) {
	for _, p := range rightPaths() {
		for _, n := range amounts() {
			top := Top(p, n)
			if !Right(top) || Len(top) != max(0, min(n, Len(p))) {
				t.Errorf("Top(%q, %d): %q", p, n, top)
			}
			for _, m := range amounts() {
				if got := Top(top, m); got != Top(p, min(n, m)) {
					t.Errorf("Top(Top(%q, %d), %d): %q", p, n, m, got)
				}
			}
		}
		for _, q := range rightPaths() {
			n := Same(p, q)
			if Top(p, n) != Top(q, n) {
				t.Errorf("the first %d labels of %q and %q: %q, %q", n, p, q, Top(p, n), Top(q, n))
			}
			if p != q && Top(p, n+1) == Top(q, n+1) {
				t.Errorf("Same of %q and %q is %d, not the most", p, q, n)
			}
		}
	}
}
