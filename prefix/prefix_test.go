package prefix

import (
	"math"
	"math/rand"
	"slices"
	"strings"
	"testing"

	"cribble/api"
	"cribble/key"
	"cribble/wide"
)

// The widths of the kinds, apart from the program.
var widths = map[int]int{1: 32, 2: 128, 3: 8}

// Dimensions of all kinds and of both sides, with steps that divide the width and steps that do not.
var (
	four16 = api.Dim{Kind: 1, Side: 1, Step: 16}
	four12 = api.Dim{Kind: 1, Side: 2, Step: 12}
	four8  = api.Dim{Kind: 1, Side: 2, Step: 8}
	four32 = api.Dim{Kind: 1, Side: 1, Step: 32}
	six48  = api.Dim{Kind: 2, Side: 2, Step: 48}
	six128 = api.Dim{Kind: 2, Side: 1, Step: 128}
	path3  = api.Dim{Kind: 3, Side: 1, Step: 3}
	path5  = api.Dim{Kind: 3, Side: 2, Step: 5}
	path1  = api.Dim{Kind: 3, Side: 2, Step: 1}
)

// one returns the space of a dimension.
func one(d api.Dim) api.Space { return api.Space{N: 1, D: [2]api.Dim{d}} }

// two returns the space of two dimensions.
func two(a, b api.Dim) api.Space { return api.Space{N: 2, D: [2]api.Dim{a, b}} }

// rightSpaces returns valid spaces, few enough for all pairs of their prefixes to be looked at.
func rightSpaces() []api.Space {
	return []api.Space{
		one(four16), one(four12), one(four8), one(four32), one(six48), one(six128), one(path3), one(path5), one(path1),
		two(four16, four16), two(four16, four12), two(path3, four16), two(four32, path5), two(path5, path3), two(path3, path3), two(six48, path5), two(six128, six48), two(four16, six48),
	}
}

// wrongDims returns dimensions that are not valid.
func wrongDims() []api.Dim {
	return []api.Dim{
		{}, {Kind: 1}, {Side: 1}, {Step: 1}, {Kind: 1, Side: 1}, {Kind: 1, Step: 8}, {Side: 2, Step: 8}, {Kind: 4, Side: 1, Step: 1}, {Kind: -1, Side: 1, Step: 1}, {Kind: 1, Side: 3, Step: 8}, {Kind: 1, Side: -1, Step: 8},
		{Kind: 1, Side: 1, Step: 33}, {Kind: 1, Side: 1, Step: -8}, {Kind: 2, Side: 2, Step: 129}, {Kind: 3, Side: 1, Step: 9}, {Kind: 3, Side: 2, Step: -1}, {Kind: math.MaxInt, Side: math.MaxInt, Step: math.MaxInt}, {Kind: math.MinInt, Side: math.MinInt, Step: math.MinInt}, {Kind: 1, Side: 1, Step: math.MinInt}, {Kind: 3, Side: 1, Step: math.MaxInt},
	}
}

// wrongSpaces returns spaces that are not valid.
func wrongSpaces() []api.Space {
	l := []api.Space{{}}
	for _, n := range []int{0, 3, 4, -1, -2, math.MinInt, math.MaxInt} {
		for _, d := range [][2]api.Dim{{}, {four16}, {four16, four12}, {{}, four12}, {path3, path3}} {
			l = append(l, api.Space{N: n, D: d})
		}
	}
	for _, d := range wrongDims() {
		l = append(l, one(d), two(d, four16), two(path3, d), two(d, d))
		if d != (api.Dim{}) {
			l = append(l, api.Space{N: 1, D: [2]api.Dim{four16, d}})
		}
	}
	for _, d := range []api.Dim{four16, four12, six48, path3} {
		l = append(l, api.Space{N: 1, D: [2]api.Dim{four16, d}}, api.Space{N: 1, D: [2]api.Dim{{}, d}})
	}
	return l
}

// lengths returns the lengths of the levels of a valid dimension, as chapter 8 defines them.
func lengths(d api.Dim) []int {
	l := []int{widths[d.Kind]}
	for l[len(l)-1] > 0 {
		l = append(l, max(0, l[len(l)-1]-d.Step))
	}
	return l
}

// onLevel is what chapter 8 calls being on a level.
func onLevel(d api.Dim, level int, k api.Key) bool {
	l := lengths(d)
	return level >= 0 && level < len(l) && key.Right(k) && k.Kind == d.Kind && (k.Len == l[level] || k.Kind == 3 && k.Len <= l[level])
}

// valid is what the chapter calls a valid prefix of a valid space.
func valid(s api.Space, p api.Prefix) bool {
	if s.N == 1 {
		return onLevel(s.D[0], p.At[0], p.Key[0]) && p.At[1] == 0 && p.Key[1] == api.Key{}
	}
	return onLevel(s.D[0], p.At[0], p.Key[0]) && onLevel(s.D[1], p.At[1], p.Key[1])
}

// covers is what the chapter calls covering, in a valid space.
func covers(s api.Space, p, q api.Prefix) bool {
	if !valid(s, p) || !valid(s, q) {
		return false
	}
	for i := range s.N {
		if p.At[i] < q.At[i] || p.Key[i] != key.Cut(q.Key[i], lengths(s.D[i])[p.At[i]]) {
			return false
		}
	}
	return true
}

// path returns the key of a path.
func path(p string) api.Key {
	k, _ := key.Path(p)
	return k
}

// fullKeys returns keys of a kind that are on level 0; some of them agree for a while.
func fullKeys(kind int) []api.Key {
	switch kind {
	case 1:
		return []api.Key{key.Four(167837953), key.Four(167837954), key.Four(3232235777)}
	case 2:
		return []api.Key{key.Six(wide.Wide{Hi: 0x20010db8 << 32, Lo: 1}), key.Six(wide.Wide{Hi: 0x20010db8<<32 | 1}), key.Six(wide.Wide{Lo: 1})}
	}
	return []api.Key{path("a.b.c.d.e.f"), path("a.b.c.x"), path("a.b"), path("")}
}

// point is a level and a key on it.
type point struct {
	level int
	k     api.Key
}

// points returns the cuts of the full keys to all levels, each once.
func points(d api.Dim) []point {
	var l []point
	for level, n := range lengths(d) {
		for _, k := range fullKeys(d.Kind) {
			if p := (point{level, key.Cut(k, n)}); !slices.Contains(l, p) {
				l = append(l, p)
			}
		}
	}
	return l
}

// rightPrefixes returns valid prefixes of a valid space: all combinations of its dimensions' points.
func rightPrefixes(s api.Space) []api.Prefix {
	var l []api.Prefix
	for _, a := range points(s.D[0]) {
		if s.N == 1 {
			l = append(l, api.Prefix{At: [2]int{a.level}, Key: [2]api.Key{a.k}})
			continue
		}
		for _, b := range points(s.D[1]) {
			l = append(l, api.Prefix{At: [2]int{a.level, b.level}, Key: [2]api.Key{a.k, b.k}})
		}
	}
	return l
}

// wrongPrefixes returns prefixes that are not valid in a valid space.
func wrongPrefixes(s api.Space) []api.Prefix {
	l := []api.Prefix{{}, {At: [2]int{math.MinInt, math.MinInt}}, {At: [2]int{math.MaxInt, math.MaxInt}}}
	keys := []api.Key{{}, {Kind: 1}, {Kind: 2}, {Kind: 3}, key.Four(1), key.Six(wide.Of(1)), path("a"), path("a.b.c.d.e.f.g.h"), {Kind: 1, Len: 16}, {Kind: 1, Len: 15}, {Kind: 1, Len: 33}, {Kind: 1, Len: 32, Hi: 1}, {Kind: 3, Len: 2, Path: "a"}, {Kind: 3, Len: -1}, {Kind: 4}, {Len: 1}, {Path: "a"}}
	for n, p := range rightPrefixes(s) {
		if n%5 > 1 {
			continue
		}
		for i, d := range s.D {
			for _, level := range []int{math.MinInt, -1, 0, 1, 2, 8, 9, len(lengthsOr(d)) - 1, len(lengthsOr(d)), math.MaxInt} {
				q := p
				q.At[i] = level
				l = append(l, q)
			}
			for _, k := range keys {
				q := p
				q.Key[i] = k
				l = append(l, q)
			}
		}
	}
	return slices.DeleteFunc(l, func(p api.Prefix) bool { return valid(s, p) })
}

// lengthsOr returns the lengths of a dimension; 0 alone for the zero dimension.
func lengthsOr(d api.Dim) []int {
	if d == (api.Dim{}) {
		return []int{0}
	}
	return lengths(d)
}

// nodes returns the levels of the nodes of a valid space, and others around them.
func nodes(s api.Space) [][2]int {
	l := [][2]int{{math.MinInt, 0}, {0, math.MinInt}, {math.MaxInt, 0}, {0, math.MaxInt}, {math.MinInt, math.MaxInt}, {math.MaxInt, math.MaxInt}, {math.MinInt, math.MinInt}}
	for a := -2; a <= len(lengths(s.D[0]))+1; a++ {
		for b := -2; b <= len(lengthsOr(s.D[1]))+1; b++ {
			l = append(l, [2]int{a, b})
		}
	}
	return l
}

// TestSound is of P9.1.
func TestSound(t *testing.T) {
	l := rightSpaces()
	for kind, width := range widths {
		for side := 1; side <= 2; side++ {
			for step := 1; step <= width; step++ {
				d := api.Dim{Kind: kind, Side: side, Step: step}
				l = append(l, one(d), two(d, path3), two(six48, d), two(d, d))
			}
		}
	}
	for _, s := range l {
		if !Sound(s) {
			t.Errorf("Sound(%+v): false", s)
		}
	}
	for _, s := range wrongSpaces() {
		if Sound(s) {
			t.Errorf("Sound(%+v): true", s)
		}
	}
}

// TestRight is of P9.1.
func TestRight(t *testing.T) {
	for _, s := range rightSpaces() {
		for _, p := range rightPrefixes(s) {
			if !valid(s, p) || !Right(s, p) {
				t.Errorf("Right(%+v, %+v): false", s, p)
			}
		}
		for _, p := range wrongPrefixes(s) {
			if Right(s, p) {
				t.Errorf("Right(%+v, %+v): true", s, p)
			}
		}
	}
}

// TestRightLevels is of P9.1: each key is looked at on each level of each dimension.
func TestRightLevels(t *testing.T) {
	keys := []api.Key{{}, {Kind: 1, Len: 20, Hi: 10 << 56}, {Kind: 1, Len: 19, Hi: 10 << 56}, {Kind: 2, Len: 80}, {Kind: 2, Len: 81}, {Kind: 2, Len: 32}}
	for kind := 1; kind <= 3; kind++ {
		keys = append(keys, fullKeys(kind)...)
		keys = append(keys, key.Root(kind))
	}
	for _, s := range rightSpaces() {
		for _, at := range nodes(s) {
			for _, a := range keys {
				for _, b := range keys {
					p := api.Prefix{At: at, Key: [2]api.Key{a, b}}
					if Right(s, p) != valid(s, p) {
						t.Errorf("Right(%+v, %+v): %v", s, p, !valid(s, p))
					}
				}
			}
		}
	}
}

// TestRightEdges is of P9.1: what the chapter says of keys on levels and of one dimension, spelled out.
func TestRightEdges(t *testing.T) {
	for _, c := range []struct {
		s    api.Space
		p    api.Prefix
		want bool
	}{
		{one(path3), api.Prefix{Key: [2]api.Key{path("a")}}, true},
		{one(path3), api.Prefix{Key: [2]api.Key{path("")}}, true},
		{one(path3), api.Prefix{At: [2]int{1}, Key: [2]api.Key{path("a.b.c.d.e")}}, true},
		{one(path3), api.Prefix{At: [2]int{1}, Key: [2]api.Key{path("a.b.c.d.e.f")}}, false},
		{one(path3), api.Prefix{At: [2]int{2}, Key: [2]api.Key{path("a")}}, true},
		{one(path3), api.Prefix{At: [2]int{3}, Key: [2]api.Key{path("a")}}, false},
		{one(path3), api.Prefix{At: [2]int{3}, Key: [2]api.Key{path("")}}, true},
		{one(path3), api.Prefix{At: [2]int{4}, Key: [2]api.Key{path("")}}, false},
		{one(path3), api.Prefix{At: [2]int{-1}, Key: [2]api.Key{path("")}}, false},
		{one(four8), api.Prefix{At: [2]int{3}, Key: [2]api.Key{{Kind: 1, Len: 8, Hi: 10 << 56}}}, true},
		{one(four8), api.Prefix{At: [2]int{2}, Key: [2]api.Key{{Kind: 1, Len: 8, Hi: 10 << 56}}}, false},
		{one(four8), api.Prefix{At: [2]int{3, 1}, Key: [2]api.Key{{Kind: 1, Len: 8, Hi: 10 << 56}}}, false},
		{one(four8), api.Prefix{At: [2]int{3, -1}, Key: [2]api.Key{{Kind: 1, Len: 8, Hi: 10 << 56}}}, false},
		{one(four8), api.Prefix{At: [2]int{3}, Key: [2]api.Key{{Kind: 1, Len: 8, Hi: 10 << 56}, {Kind: 1}}}, false},
		{one(four8), api.Prefix{At: [2]int{3}, Key: [2]api.Key{{Kind: 1, Len: 8, Hi: 10 << 56}, {Path: "a"}}}, false},
		{one(four8), api.Prefix{Key: [2]api.Key{{}, key.Four(1)}}, false},
		{two(four8, path3), api.Prefix{Key: [2]api.Key{key.Four(1), path("a")}}, true},
		{two(four8, path3), api.Prefix{Key: [2]api.Key{path("a"), key.Four(1)}}, false},
		{two(four8, path3), api.Prefix{Key: [2]api.Key{key.Four(1)}}, false},
		{two(four8, path3), api.Prefix{At: [2]int{4, 3}, Key: [2]api.Key{{Kind: 1}, {Kind: 3}}}, true},
		{two(four8, path3), api.Prefix{At: [2]int{3, 4}, Key: [2]api.Key{{Kind: 1}, {Kind: 3}}}, false},
		{two(four8, path3), api.Prefix{At: [2]int{5, 3}, Key: [2]api.Key{{Kind: 1}, {Kind: 3}}}, false},
	} {
		if ok := Right(c.s, c.p); ok != c.want {
			t.Errorf("Right(%+v, %+v): %v", c.s, c.p, ok)
		}
	}
}

// TestLeaf is of P9.1.
func TestLeaf(t *testing.T) {
	keys := []api.Key{{}, {Kind: 1}, {Kind: 1, Len: 31}, {Kind: 1, Len: 33}, {Kind: 1, Len: 32, Hi: 1}, {Kind: 1, Len: 32, Path: "a"}, {Kind: 2}, {Kind: 2, Len: 127}, {Kind: 3, Len: 1}, {Kind: 3, Path: "a"}, {Kind: 4}, {Len: 1}}
	for kind := 1; kind <= 3; kind++ {
		keys = append(keys, fullKeys(kind)...)
	}
	right := 0
	for _, s := range rightSpaces() {
		for _, a := range keys {
			for _, b := range keys {
				want := api.Prefix{Key: [2]api.Key{a, b}}
				ok := valid(s, want)
				if ok {
					right++
				} else {
					want = api.Prefix{}
				}
				if p, got := Leaf(s, a, b); p != want || got != ok {
					t.Errorf("Leaf(%+v, %+v, %+v): %+v, %v", s, a, b, p, got)
				}
			}
		}
	}
	if right < 50 {
		t.Errorf("%d leaves", right)
	}
}

// TestLeafEdges is of P9.1: leaves with one key and with two, spelled out.
func TestLeafEdges(t *testing.T) {
	a, b := key.Four(167837953), path("a.b")
	if p, ok := Leaf(one(four16), a, api.Key{}); !ok || p != (api.Prefix{Key: [2]api.Key{a}}) {
		t.Errorf("Leaf of one key: %+v, %v", p, ok)
	}
	if p, ok := Leaf(two(four16, path3), a, b); !ok || p != (api.Prefix{Key: [2]api.Key{a, b}}) {
		t.Errorf("Leaf of two keys: %+v, %v", p, ok)
	}
	for _, c := range []struct {
		s    api.Space
		a, b api.Key
	}{
		{one(four16), a, a}, {one(four16), a, b}, {one(four16), a, key.Root(1)}, {one(four16), api.Key{}, a}, {one(four16), b, api.Key{}}, {one(four16), key.Cut(a, 16), api.Key{}}, {one(four16), key.Root(1), api.Key{}},
		{two(four16, path3), a, api.Key{}}, {two(four16, path3), b, a}, {two(four16, path3), key.Cut(a, 16), b}, {two(four16, path3), api.Key{}, b}, {two(four16, path3), a, a},
		{api.Space{N: 1, D: [2]api.Dim{four16, path3}}, a, api.Key{}}, {api.Space{N: 1, D: [2]api.Dim{four16, path3}}, a, b}, {api.Space{N: 0}, api.Key{}, api.Key{}}, {api.Space{N: 3, D: [2]api.Dim{four16, path3}}, a, b}, {two(four16, api.Dim{}), a, api.Key{}},
	} {
		if p, ok := Leaf(c.s, c.a, c.b); ok || p != (api.Prefix{}) {
			t.Errorf("Leaf(%+v, %+v, %+v): %+v, %v", c.s, c.a, c.b, p, ok)
		}
	}
}

// top returns the prefix of the roots on the last levels of a valid space.
func top(s api.Space) api.Prefix {
	var p api.Prefix
	for i := range s.N {
		p.At[i], p.Key[i] = len(lengths(s.D[i]))-1, api.Key{Kind: s.D[i].Kind}
	}
	return p
}

// TestTop is of P9.1.
func TestTop(t *testing.T) {
	for _, s := range rightSpaces() {
		if p := Top(s); p != top(s) || !valid(s, p) {
			t.Errorf("Top(%+v): %+v", s, p)
		}
	}
	if p := Top(two(four12, path3)); p != (api.Prefix{At: [2]int{3, 3}, Key: [2]api.Key{{Kind: 1}, {Kind: 3}}}) {
		t.Errorf("Top of IPv4 and paths: %+v", p)
	}
	if p := Top(one(six48)); p != (api.Prefix{At: [2]int{3}, Key: [2]api.Key{{Kind: 2}}}) {
		t.Errorf("Top of IPv6: %+v", p)
	}
}

// TestHeight is of P9.1.
func TestHeight(t *testing.T) {
	for _, s := range rightSpaces() {
		for _, p := range rightPrefixes(s) {
			if n := Height(s, p); n != p.At[0]+p.At[1] {
				t.Errorf("Height(%+v, %+v): %d", s, p, n)
			}
		}
		for _, p := range wrongPrefixes(s) {
			if n := Height(s, p); n != 0 {
				t.Errorf("Height(%+v, %+v): %d", s, p, n)
			}
		}
	}
	if n := Height(two(four12, six48), top(two(four12, six48))); n != 6 {
		t.Errorf("Height of the top: %d", n)
	}
	if n := Height(one(path1), top(one(path1))); n != 8 {
		t.Errorf("Height of the top of one dimension: %d", n)
	}
}

// TestUp is of P9.2.
func TestUp(t *testing.T) {
	for _, s := range rightSpaces() {
		pool := rightPrefixes(s)
		for _, p := range pool {
			for _, at := range nodes(s) {
				var want api.Prefix
				for _, q := range pool {
					if q.At == at && covers(s, q, p) {
						want = q
					}
				}
				if up := Up(s, p, at); up != want {
					t.Errorf("Up(%+v, %+v, %v): %+v, not %+v", s, p, at, up, want)
				}
			}
		}
		for _, p := range wrongPrefixes(s) {
			for _, at := range [][2]int{p.At, {0, 0}, {1, 0}, {1, 1}, top(s).At, {math.MaxInt, math.MaxInt}} {
				if up := Up(s, p, at); up != (api.Prefix{}) {
					t.Errorf("Up(%+v, %+v, %v): %+v", s, p, at, up)
				}
			}
		}
	}
}

// TestUpEdges is of P9.2: the same node, higher ones, and nodes below in one dimension or in both, spelled out.
func TestUpEdges(t *testing.T) {
	s := two(four8, path3)
	at := func(a, b int, k api.Key, p string) api.Prefix {
		return api.Prefix{At: [2]int{a, b}, Key: [2]api.Key{k, path(p)}}
	}
	p := at(1, 1, api.Key{Kind: 1, Len: 24, Hi: (10<<24 | 1<<16 | 1<<8) << 32}, "a.b.c")
	for to, want := range map[[2]int]api.Prefix{
		{1, 1}: p,
		{1, 2}: at(1, 2, p.Key[0], "a.b"),
		{1, 3}: at(1, 3, p.Key[0], ""),
		{2, 1}: at(2, 1, api.Key{Kind: 1, Len: 16, Hi: (10<<8 | 1) << 48}, "a.b.c"),
		{3, 2}: at(3, 2, api.Key{Kind: 1, Len: 8, Hi: 10 << 56}, "a.b"),
		{4, 3}: at(4, 3, api.Key{Kind: 1}, ""),
		{0, 1}: {}, {1, 0}: {}, {0, 0}: {}, {4, 0}: {}, {0, 3}: {}, {5, 3}: {}, {4, 4}: {}, {-1, 1}: {}, {1, -1}: {}, {math.MaxInt, math.MaxInt}: {},
	} {
		if up := Up(s, p, to); up != want {
			t.Errorf("Up to %v: %+v, not %+v", to, up, want)
		}
	}
	q := api.Prefix{At: [2]int{1}, Key: [2]api.Key{p.Key[0]}}
	for to, want := range map[[2]int]api.Prefix{{1, 0}: q, {4, 0}: top(one(four8)), {0, 0}: {}, {1, 1}: {}, {1, -1}: {}, {5, 0}: {}, {2, math.MaxInt}: {}} {
		if up := Up(one(four8), q, to); up != want {
			t.Errorf("Up in one dimension to %v: %+v, not %+v", to, up, want)
		}
	}
}

// some returns valid prefixes of a space, and one in so many of those that are not valid.
func some(s api.Space, every int) []api.Prefix {
	l := rightPrefixes(s)
	for n, p := range wrongPrefixes(s) {
		if n%every == 0 {
			l = append(l, p)
		}
	}
	return l
}

// TestOver is of P9.2.
func TestOver(t *testing.T) {
	for _, s := range rightSpaces() {
		pool := some(s, 3)
		for _, p := range pool {
			for _, q := range pool {
				if ok := Over(s, p, q); ok != covers(s, p, q) {
					t.Errorf("Over(%+v, %+v, %+v): %v", s, p, q, ok)
				}
			}
		}
	}
}

// TestOverLevels is of P9.2: a key alone does not make a prefix cover another one, its level counts too.
func TestOverLevels(t *testing.T) {
	s := one(path3)
	p := func(level int, k string) api.Prefix {
		return api.Prefix{At: [2]int{level}, Key: [2]api.Key{path(k)}}
	}
	for _, c := range []struct {
		p, q api.Prefix
		want bool
	}{
		{p(1, "a.b"), p(0, "a.b"), true}, {p(0, "a.b"), p(1, "a.b"), false}, {p(1, "a.b"), p(1, "a.b"), true}, {p(2, "a.b"), p(0, "a.b.c"), true},
		{p(1, "a.b"), p(0, "a.b.c"), false}, {p(1, "a"), p(0, "a.b"), false}, {p(3, ""), p(0, "a.b"), true}, {p(2, ""), p(0, "a"), false}, {p(2, ""), p(0, ""), true}, {p(0, ""), p(0, "a"), false}, {p(2, "b"), p(0, "a"), false},
	} {
		if ok := Over(s, c.p, c.q); ok != c.want {
			t.Errorf("Over(%+v, %+v): %v", c.p, c.q, ok)
		}
	}
}

// common returns, of a pool, the prefix that p and q both cover and that covers every other such one; false if they cover none.
func common(s api.Space, pool []api.Prefix, p, q api.Prefix) (api.Prefix, bool, bool) {
	var both []api.Prefix
	for _, r := range pool {
		if covers(s, p, r) && covers(s, q, r) {
			both = append(both, r)
		}
	}
	for _, x := range both {
		if !slices.ContainsFunc(both, func(r api.Prefix) bool { return !covers(s, x, r) }) {
			return x, true, true
		}
	}
	return api.Prefix{}, false, len(both) == 0
}

// TestCross is of P9.3 and P9.5: the cross is looked for among all prefixes whose keys occur.
func TestCross(t *testing.T) {
	r := rand.New(rand.NewSource(9))
	for _, s := range rightSpaces() {
		pool := rightPrefixes(s)
		found := 0
		for range min(len(pool)*len(pool), 2000) {
			p, q := pool[r.Intn(len(pool))], pool[r.Intn(len(pool))]
			want, ok, clear := common(s, pool, p, q)
			if !clear {
				t.Fatalf("%+v: %+v and %+v have no greatest common prefix", s, p, q)
			}
			if x, got := Cross(s, p, q); x != want || got != ok {
				t.Errorf("Cross(%+v, %+v, %+v): %+v, %v, not %+v, %v", s, p, q, x, got, want, ok)
			}
			if ok {
				found++
			}
		}
		if found < 5 {
			t.Errorf("%+v: %d crosses", s, found)
		}
	}
}

// TestCrossWrong is of P9.3: nothing is covered by a prefix that is not valid.
func TestCrossWrong(t *testing.T) {
	for _, s := range rightSpaces() {
		right := rightPrefixes(s)
		for i, p := range wrongPrefixes(s) {
			for _, q := range []api.Prefix{p, {}, top(s), right[0], right[len(right)-1], right[i%len(right)]} {
				for _, pair := range [][2]api.Prefix{{p, q}, {q, p}} {
					if x, ok := Cross(s, pair[0], pair[1]); ok || x != (api.Prefix{}) {
						t.Errorf("Cross(%+v, %+v, %+v): %+v, %v", s, pair[0], pair[1], x, ok)
					}
				}
			}
		}
	}
}

// TestCrossEdges is of P9.3: the chapter's example, and pairs that have no cross.
func TestCrossEdges(t *testing.T) {
	s := two(api.Dim{Kind: 1, Side: 1, Step: 8}, api.Dim{Kind: 1, Side: 2, Step: 8})
	at := func(a int, k uint32, b int, m uint32) api.Prefix {
		return api.Prefix{At: [2]int{a, b}, Key: [2]api.Key{key.Cut(key.Four(k), 32-8*a), key.Cut(key.Four(m), 32-8*b)}}
	}
	const ten, eleven, home = 10 << 24, 11 << 24, 192<<24 | 168<<16
	for _, c := range []struct {
		p, q, want api.Prefix
		ok         bool
	}{
		{at(3, ten, 4, 0), at(4, 0, 2, home), at(3, ten, 2, home), true},
		{at(3, ten, 2, home), at(3, ten, 2, home), at(3, ten, 2, home), true},
		{at(4, 0, 4, 0), at(0, ten, 0, home), at(0, ten, 0, home), true},
		{at(0, ten+1, 3, home), at(3, ten, 0, home+1), at(0, ten+1, 0, home+1), true},
		{at(3, ten, 4, 0), at(3, eleven, 4, 0), api.Prefix{}, false},
		{at(3, ten, 0, home), at(0, eleven, 3, home), api.Prefix{}, false},
		{at(0, ten, 3, home), at(3, ten, 0, ten), api.Prefix{}, false},
		{at(0, ten, 0, home), at(0, ten, 0, home+1), api.Prefix{}, false},
		{at(0, ten, 0, home), at(0, ten, 0, home), at(0, ten, 0, home), true},
	} {
		for _, pair := range [][2]api.Prefix{{c.p, c.q}, {c.q, c.p}} {
			if x, ok := Cross(s, pair[0], pair[1]); x != c.want || ok != c.ok {
				t.Errorf("Cross(%+v, %+v): %+v, %v", pair[0], pair[1], x, ok)
			}
		}
	}
}

// TestPaths is of P9.3: paths with fewer labels than their level's length have a cross only where the key of the higher level is the cut of the other one.
func TestPaths(t *testing.T) {
	s := one(path3)
	p := func(level int, k string) api.Prefix {
		return api.Prefix{At: [2]int{level}, Key: [2]api.Key{path(k)}}
	}
	for _, c := range []struct {
		p, q, want api.Prefix
		ok         bool
	}{
		{p(1, "a.b"), p(0, "a.b"), p(0, "a.b"), true}, {p(2, "a.b"), p(1, "a.b.c"), p(1, "a.b.c"), true}, {p(2, "a"), p(1, "a.b"), api.Prefix{}, false}, {p(1, "a.b"), p(0, "a.b.c"), api.Prefix{}, false}, {p(1, "a"), p(1, "a.b"), api.Prefix{}, false}, {p(3, ""), p(2, ""), p(2, ""), true},
	} {
		for _, pair := range [][2]api.Prefix{{c.p, c.q}, {c.q, c.p}} {
			if x, ok := Cross(s, pair[0], pair[1]); x != c.want || ok != c.ok {
				t.Errorf("Cross(%+v, %+v): %+v, %v", pair[0], pair[1], x, ok)
			}
		}
	}
}

// before returns prefixes, valid and not, each of which is ordered before the next one.
func before() []api.Prefix {
	at := func(a, b int, k, m api.Key) api.Prefix {
		return api.Prefix{At: [2]int{a, b}, Key: [2]api.Key{k, m}}
	}
	none := api.Key{}
	return []api.Prefix{
		at(math.MinInt, math.MaxInt, key.Six(wide.Of(9)), path("z")), at(-1, 5, path("z"), none), at(0, math.MinInt, path("z"), none), at(0, -1, path("z"), path("z")),
		at(0, 0, api.Key{Kind: -1}, path("z")), {}, at(0, 0, none, api.Key{Len: 1}), at(0, 0, none, key.Root(1)), at(0, 0, none, path("z")), at(0, 0, api.Key{Len: 1}, none), at(0, 0, api.Key{Kind: 1, Len: -1}, none), at(0, 0, key.Root(1), none),
		at(0, 0, key.Four(1), none), at(0, 0, key.Four(1), key.Four(2)), at(0, 0, key.Four(1), key.Four(3)), at(0, 0, key.Four(2), none), at(0, 0, key.Four(2), key.Four(1)), at(0, 0, path("a"), path("b")), at(0, 0, path("a"), path("c")), at(0, 0, path("a.b"), path("a")), at(0, 0, path("b"), path("a")), at(0, 0, api.Key{Kind: 4}, none),
		at(0, 1, none, none), at(0, 1, key.Root(1), key.Root(1)), at(0, 2, none, none), at(0, math.MaxInt, none, none), at(1, math.MinInt, none, none), at(1, 0, none, none), at(1, 0, key.Four(1), none), at(1, 1, key.Root(1), none), at(2, 0, none, none), at(2, 0, none, key.Root(3)), at(math.MaxInt, math.MinInt, none, none), at(math.MaxInt, math.MaxInt, none, none),
	}
}

// TestCmp is of P9.3.
func TestCmp(t *testing.T) {
	l := before()
	for i, p := range l {
		for j, q := range l {
			want := 0
			switch {
			case i < j:
				want = -1
			case i > j:
				want = 1
			}
			if n := Cmp(p, q); n != want {
				t.Errorf("Cmp(%+v, %+v): %d, not %d", p, q, n, want)
			}
		}
	}
}

// TestCmpFields is of P9.3: whatever stands in the fields, the first one that differs decides.
func TestCmpFields(t *testing.T) {
	keys := []api.Key{{}, key.Root(1), key.Four(7), path("a"), {Kind: 9, Len: -5}}
	levels := []int{math.MinInt, 0, 1, math.MaxInt}
	var l []api.Prefix
	for _, a := range levels {
		for _, b := range levels {
			for _, k := range keys {
				for _, m := range keys {
					l = append(l, api.Prefix{At: [2]int{a, b}, Key: [2]api.Key{k, m}})
				}
			}
		}
	}
	for _, p := range l {
		for _, q := range l {
			want := key.Cmp(p.Key[0], q.Key[0])
			if want == 0 {
				want = key.Cmp(p.Key[1], q.Key[1])
			}
			for i := 1; i >= 0; i-- {
				if p.At[i] != q.At[i] {
					want = 1
					if p.At[i] < q.At[i] {
						want = -1
					}
				}
			}
			if n := Cmp(p, q); n != want || (n == 0) != (p == q) {
				t.Errorf("Cmp(%+v, %+v): %d, not %d", p, q, n, want)
			}
		}
	}
}

// TestOrder is of P9.4: covering is a partial order with the top as its greatest element.
func TestOrder(t *testing.T) {
	for _, s := range rightSpaces() {
		pool := rightPrefixes(s)
		r := rand.New(rand.NewSource(94))
		for _, p := range pool {
			if !Over(s, p, p) || !Over(s, Top(s), p) || p != Top(s) && Over(s, p, Top(s)) {
				t.Errorf("%+v: %+v, itself and the top", s, p)
			}
			for range 100 {
				q, o := pool[r.Intn(len(pool))], pool[r.Intn(len(pool))]
				if p != q && Over(s, p, q) && Over(s, q, p) {
					t.Errorf("%+v: %+v and %+v cover each other", s, p, q)
				}
				if Over(s, p, q) && Over(s, q, o) && !Over(s, p, o) {
					t.Errorf("%+v: %+v covers %+v, which covers %+v", s, p, q, o)
				}
			}
		}
	}
}

// TestOneEach is of P9.4: each prefix is covered by exactly one prefix on each node that is not below its own, and by none elsewhere.
func TestOneEach(t *testing.T) {
	for _, s := range rightSpaces() {
		pool := rightPrefixes(s)
		last := top(s).At
		for _, p := range pool {
			count := map[[2]int]int{}
			for _, q := range pool {
				if Over(s, q, p) {
					count[q.At]++
				}
			}
			for _, at := range nodes(s) {
				want := 0
				if at[0] >= p.At[0] && at[1] >= p.At[1] && at[0] <= last[0] && at[1] <= last[1] {
					want = 1
				}
				if count[at] != want || (Up(s, p, at) != api.Prefix{}) != (want == 1) {
					t.Errorf("%+v: %d on %v cover %+v", s, count[at], at, p)
				}
			}
		}
	}
}

// TestCrossLeaves is of P9.5: a leaf is covered by two prefixes exactly if it is covered by their cross, and so is every other prefix.
func TestCrossLeaves(t *testing.T) {
	r := rand.New(rand.NewSource(95))
	for _, s := range rightSpaces() {
		pool := rightPrefixes(s)
		for range 500 {
			p, q := pool[r.Intn(len(pool))], pool[r.Intn(len(pool))]
			x, ok := Cross(s, p, q)
			if y, again := Cross(s, q, p); y != x || again != ok {
				t.Errorf("%+v: Cross of %+v and %+v depends on their order", s, p, q)
			}
			leaf := false
			for _, o := range pool {
				both := Over(s, p, o) && Over(s, q, o)
				if both != (ok && Over(s, x, o)) {
					t.Errorf("%+v: %+v, below %+v and %+v, and their cross %+v", s, o, p, q, x)
				}
				leaf = leaf || both && o.At == [2]int{}
			}
			if leaf != ok {
				t.Errorf("%+v: %+v and %+v have a leaf in common: %v, and a cross: %v", s, p, q, leaf, ok)
			}
		}
	}
}

// TestWrongSpaces is of P9.1 to P9.3: a space that is not valid has no prefixes.
func TestWrongSpaces(t *testing.T) {
	l := []api.Prefix{{}, top(one(four16)), top(two(four16, four12)), {Key: [2]api.Key{key.Four(1)}}, {Key: [2]api.Key{key.Four(1), key.Four(1)}}, {Key: [2]api.Key{path("a"), path("a")}}, {Key: [2]api.Key{{}, key.Four(1)}}, top(two(path3, path3)), {At: [2]int{math.MaxInt, math.MinInt}}}
	for _, s := range wrongSpaces() {
		if p := Top(s); p != (api.Prefix{}) {
			t.Errorf("Top(%+v): %+v", s, p)
		}
		for _, p := range l {
			if Right(s, p) || Height(s, p) != 0 || Up(s, p, p.At) != (api.Prefix{}) || Up(s, p, [2]int{1, 0}) != (api.Prefix{}) {
				t.Errorf("Right, Height or Up(%+v, %+v)", s, p)
			}
			if q, ok := Leaf(s, p.Key[0], p.Key[1]); ok || q != (api.Prefix{}) {
				t.Errorf("Leaf(%+v, %+v): %+v, %v", s, p.Key, q, ok)
			}
			for _, q := range l {
				if x, ok := Cross(s, p, q); ok || x != (api.Prefix{}) || Over(s, p, q) {
					t.Errorf("Cross or Over(%+v, %+v, %+v): %+v, %v", s, p, q, x, ok)
				}
			}
		}
	}
}

// TestHandmade is of P1: whatever the space and the prefixes, each function returns.
func TestHandmade(t *testing.T) {
	r := rand.New(rand.NewSource(91))
	edges := []int{math.MinInt, -129, -1, 0, 1, 1, 2, 2, 3, 4, 8, 9, 32, 33, 128, 129, math.MaxInt}
	pick := func() int { return edges[r.Intn(len(edges))] }
	handKey := func() api.Key {
		return api.Key{Kind: pick(), Len: pick(), Hi: r.Uint64() & uint64(pick()), Lo: uint64(pick()), Path: strings.Repeat(".a", r.Intn(10))}
	}
	handDim := func() api.Dim { return api.Dim{Kind: pick(), Side: pick(), Step: pick()} }
	for range 50000 {
		s := api.Space{N: pick(), D: [2]api.Dim{handDim(), handDim()}}
		p := api.Prefix{At: [2]int{pick(), pick()}, Key: [2]api.Key{handKey(), handKey()}}
		q := api.Prefix{At: [2]int{pick(), pick()}, Key: [2]api.Key{handKey(), handKey()}}
		if up := Up(s, p, q.At); up != (api.Prefix{}) && !Over(s, up, p) {
			t.Fatalf("Up(%+v, %+v, %v): %+v", s, p, q.At, up)
		}
		if x, ok := Cross(s, p, q); ok && !Over(s, p, x) || !ok && x != (api.Prefix{}) {
			t.Fatalf("Cross(%+v, %+v, %+v): %+v, %v", s, p, q, x, ok)
		}
		if x, ok := Leaf(s, p.Key[0], p.Key[1]); ok != Right(s, x) {
			t.Fatalf("Leaf(%+v, %+v): %+v, %v", s, p.Key, x, ok)
		}
		if n := Cmp(p, q); n != -Cmp(q, p) || n < -1 || n > 1 || Sound(s) != Right(s, Top(s)) || Height(s, p) != 0 && !Right(s, p) {
			t.Fatalf("Cmp, Top or Height(%+v, %+v, %+v)", s, p, q)
		}
	}
}
