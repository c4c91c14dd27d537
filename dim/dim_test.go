package dim

import (
	"math"
	"math/rand"
	"slices"
	"strings"
	"testing"

	"cribble/api"
	"cribble/key"
	"cribble/wide"
)

// The widths of the kinds, apart from the program.
var widths = map[int]int{1: 32, 2: 128, 3: 8}

// rightDims returns all dimensions that are valid.
func rightDims() []api.Dim {
	var l []api.Dim
	for kind, width := range widths {
		for side := 1; side <= 2; side++ {
			for step := 1; step <= width; step++ {
				l = append(l, api.Dim{Kind: kind, Side: side, Step: step})
			}
		}
	}
	return l
}

// wrongDims returns dimensions that are not valid.
func wrongDims() []api.Dim {
	l := []api.Dim{{}, {Kind: math.MinInt, Side: math.MinInt, Step: math.MinInt}, {Kind: math.MaxInt, Side: math.MaxInt, Step: math.MaxInt}, {Kind: 1, Side: 1}, {Kind: 1, Step: 8}, {Side: 1, Step: 8}}
	for _, kind := range []int{0, 4, 5, -1, math.MinInt, math.MaxInt} {
		for _, step := range []int{0, 1, 8, 32, 128, -1} {
			l = append(l, api.Dim{Kind: kind, Side: 1, Step: step}, api.Dim{Kind: kind, Side: 2, Step: step})
		}
	}
	for kind, width := range widths {
		for _, side := range []int{0, 3, 4, -1, math.MinInt, math.MaxInt} {
			l = append(l, api.Dim{Kind: kind, Side: side, Step: 1}, api.Dim{Kind: kind, Side: side, Step: width})
		}
		for _, step := range []int{0, -1, -width, math.MinInt, width + 1, width + 2, 2 * width, math.MaxInt, math.MaxInt - 1} {
			l = append(l, api.Dim{Kind: kind, Side: 1, Step: step}, api.Dim{Kind: kind, Side: 2, Step: step})
		}
	}
	return l
}

// lengths returns the lengths of the levels of a valid dimension, as the chapter defines them.
func lengths(d api.Dim) []int {
	l := []int{widths[d.Kind]}
	for l[len(l)-1] > 0 {
		l = append(l, max(0, l[len(l)-1]-d.Step))
	}
	return l
}

// numbers returns levels and lengths of all sorts.
func numbers() []int {
	l := []int{math.MinInt, math.MinInt + 1, math.MinInt32, math.MaxInt32, math.MaxInt - 1, math.MaxInt, math.MaxInt / 2, math.MaxInt/2 + 1}
	for n := -5; n <= 140; n++ {
		l = append(l, n)
	}
	return l
}

// path returns the key of a path.
func path(p string) api.Key {
	k, _ := key.Path(p)
	return k
}

// rightKeys returns valid keys of all kinds and lengths.
func rightKeys() []api.Key {
	var l []api.Key
	for _, a := range []uint32{0, 167837953, 167837952, math.MaxUint32} {
		l = slices.AppendSeq(l, key.Up(key.Four(a)))
	}
	for _, a := range []wide.Wide{{}, {Hi: 0x20010db8 << 32, Lo: 1}, {Hi: 1<<64 - 1, Lo: 1<<64 - 1}} {
		l = slices.AppendSeq(l, key.Up(key.Six(a)))
	}
	for _, p := range []string{"a.b.c.d.e.f.g.h", "a.b.c.d.x.f.g.h", "a.b.c", "a.c", "net.dc1.rack2", "b"} {
		l = slices.AppendSeq(l, key.Up(path(p)))
	}
	return l
}

// wrongKeys returns keys that are not valid.
func wrongKeys() []api.Key {
	return []api.Key{
		{}, {Kind: 4}, {Kind: -1}, {Kind: 1, Len: 33}, {Kind: 1, Len: -1}, {Kind: 1, Len: 8, Hi: 1}, {Kind: 1, Hi: 1}, {Kind: 1, Len: 8, Path: "a"}, {Kind: 1, Len: 32, Lo: 1}, {Kind: 1, Path: "a"},
		{Kind: 2, Len: 129}, {Kind: 2, Len: -1}, {Kind: 2, Lo: 1}, {Kind: 2, Len: 128, Path: "a"}, {Kind: 2, Len: math.MinInt}, {Kind: 2, Len: 64, Lo: 1},
		{Kind: 3, Len: 1}, {Kind: 3, Path: "a"}, {Kind: 3, Len: 8}, {Kind: 3, Len: 9, Path: "a.b.c.d.e.f.g.h.i"}, {Kind: 3, Len: 1, Path: "A"}, {Kind: 3, Path: "."}, {Kind: 3, Hi: 1}, {Kind: 3, Len: 1, Path: "a", Lo: 1}, {Kind: 3, Len: -1}, {Kind: 3, Len: 2, Path: "a.b.c"},
	}
}

// fewDims returns valid dimensions of all kinds, with steps that divide the width and steps that do not.
func fewDims() []api.Dim {
	var l []api.Dim
	for kind, steps := range map[int][]int{1: {1, 8, 12, 16, 31, 32}, 2: {1, 16, 48, 127, 128}, 3: {1, 2, 3, 5, 7, 8}} {
		for i, step := range steps {
			l = append(l, api.Dim{Kind: kind, Side: 1 + i%2, Step: step})
		}
	}
	return l
}

// TestRight is of P8.1.
func TestRight(t *testing.T) {
	for _, d := range rightDims() {
		if !Right(d) {
			t.Errorf("Right(%+v): false", d)
		}
	}
	for _, d := range wrongDims() {
		if Right(d) {
			t.Errorf("Right(%+v): true", d)
		}
	}
}

// TestDepth is of P8.1.
func TestDepth(t *testing.T) {
	for _, d := range rightDims() {
		if n := Depth(d); n != len(lengths(d))-1 {
			t.Errorf("Depth(%+v): %d", d, n)
		}
	}
	for _, d := range wrongDims() {
		if n := Depth(d); n != 0 {
			t.Errorf("Depth(%+v): %d", d, n)
		}
	}
}

// TestLen is of P8.1.
func TestLen(t *testing.T) {
	for _, d := range rightDims() {
		l := lengths(d)
		for _, level := range numbers() {
			want := -1
			if level >= 0 && level < len(l) {
				want = l[level]
			}
			if n := Len(d, level); n != want {
				t.Errorf("Len(%+v, %d): %d, not %d", d, level, n, want)
			}
		}
	}
	for _, d := range wrongDims() {
		for _, level := range numbers() {
			if n := Len(d, level); n != -1 {
				t.Errorf("Len(%+v, %d): %d", d, level, n)
			}
		}
	}
}

// TestLevel is of P8.1.
func TestLevel(t *testing.T) {
	for _, d := range rightDims() {
		l := lengths(d)
		for _, n := range numbers() {
			if level := Level(d, n); level != slices.Index(l, n) {
				t.Errorf("Level(%+v, %d): %d", d, n, level)
			}
		}
	}
	for _, d := range wrongDims() {
		for _, n := range numbers() {
			if level := Level(d, n); level != -1 {
				t.Errorf("Level(%+v, %d): %d", d, n, level)
			}
		}
	}
}

// TestLevels is of P8.1.
func TestLevels(t *testing.T) {
	for _, d := range rightDims() {
		levels := Levels(d)
		// The second round finds what the first one found.
		for range 2 {
			var l []int
			for level, n := range levels {
				if level != len(l) {
					t.Errorf("Levels(%+v): level %d, not %d", d, level, len(l))
				}
				l = append(l, n)
			}
			if !slices.Equal(l, lengths(d)) {
				t.Errorf("Levels(%+v): %v", d, l)
			}
		}
	}
	for _, d := range wrongDims() {
		for level, n := range Levels(d) {
			t.Errorf("Levels(%+v): %d, %d", d, level, n)
		}
	}
}

// TestLevelsStops is of P8.1: the iteration is stopped after each element.
func TestLevelsStops(t *testing.T) {
	for _, d := range rightDims() {
		whole := lengths(d)
		for n := 1; n <= len(whole); n++ {
			var l []int
			Levels(d)(func(level, length int) bool {
				l = append(l, length)
				return len(l) < n
			})
			if !slices.Equal(l, whole[:n]) {
				t.Errorf("Levels(%+v), stopped after %d: %v", d, n, l)
			}
		}
	}
}

// TestExamples is of P8.1: the lengths that the chapter gives.
func TestExamples(t *testing.T) {
	for d, want := range map[api.Dim][]int{
		{Kind: 1, Side: 1, Step: 12}:  {32, 20, 8, 0},
		{Kind: 3, Side: 1, Step: 3}:   {8, 5, 2, 0},
		{Kind: 1, Side: 2, Step: 8}:   {32, 24, 16, 8, 0},
		{Kind: 1, Side: 2, Step: 32}:  {32, 0},
		{Kind: 1, Side: 1, Step: 31}:  {32, 1, 0},
		{Kind: 2, Side: 1, Step: 128}: {128, 0},
		{Kind: 2, Side: 1, Step: 48}:  {128, 80, 32, 0},
		{Kind: 3, Side: 2, Step: 8}:   {8, 0},
		{Kind: 3, Side: 2, Step: 1}:   {8, 7, 6, 5, 4, 3, 2, 1, 0},
	} {
		var l []int
		for _, n := range Levels(d) {
			l = append(l, n)
		}
		if !slices.Equal(l, want) || Depth(d) != len(want)-1 {
			t.Errorf("Levels(%+v): %v, depth %d", d, l, Depth(d))
		}
	}
}

// TestOn is of P8.2.
func TestOn(t *testing.T) {
	for _, d := range fewDims() {
		l := lengths(d)
		for _, level := range numbers() {
			for _, k := range rightKeys() {
				want := k.Kind == d.Kind && level >= 0 && level < len(l) && (k.Len == l[level] || k.Kind == 3 && k.Len <= l[level])
				if ok := On(d, level, k); ok != want {
					t.Errorf("On(%+v, %d, %+v): %v", d, level, k, ok)
				}
			}
			for _, k := range wrongKeys() {
				if On(d, level, k) {
					t.Errorf("On(%+v, %d, %+v): true", d, level, k)
				}
			}
		}
	}
}

// TestCut is of P8.2.
func TestCut(t *testing.T) {
	for _, d := range fewDims() {
		l := lengths(d)
		for _, level := range numbers() {
			for _, k := range rightKeys() {
				var want api.Key
				if k.Kind == d.Kind && level >= 0 && level < len(l) {
					want = key.Cut(k, l[level])
				}
				if c := Cut(d, level, k); c != want {
					t.Errorf("Cut(%+v, %d, %+v): %+v", d, level, k, c)
				}
			}
			for _, k := range wrongKeys() {
				if c := Cut(d, level, k); c != (api.Key{}) {
					t.Errorf("Cut(%+v, %d, %+v): %+v", d, level, k, c)
				}
			}
		}
	}
}

// TestWrongDims is of P8.2: what is not a dimension has no levels for a key to be on.
func TestWrongDims(t *testing.T) {
	for _, d := range wrongDims() {
		for _, level := range []int{math.MinInt, -2, -1, 0, 1, 2, 32, math.MaxInt} {
			for _, k := range append(rightKeys(), wrongKeys()...) {
				if On(d, level, k) || Cut(d, level, k) != (api.Key{}) {
					t.Fatalf("On or Cut(%+v, %d, %+v)", d, level, k)
				}
			}
		}
	}
}

// TestExamplesOfKeys is of P8.2.
func TestExamplesOfKeys(t *testing.T) {
	v4 := api.Dim{Kind: 1, Side: 1, Step: 12}
	if k := Cut(v4, 2, key.Four(167837953)); k != (api.Key{Kind: 1, Len: 8, Hi: 10 << 56}) || !On(v4, 2, k) || On(v4, 1, k) || On(v4, 3, k) {
		t.Errorf("10.1.1.1 cut to level 2: %+v", k)
	}
	p := api.Dim{Kind: 3, Side: 2, Step: 3}
	if k := Cut(p, 2, path("a.b.c")); k != path("a.b") || !On(p, 2, k) || !On(p, 1, k) || On(p, 3, k) {
		t.Errorf("a.b.c cut to level 2: %+v", k)
	}
	if k := Cut(p, 1, path("a.b.c")); k != path("a.b.c") || !On(p, 1, k) || On(p, 2, k) {
		t.Errorf("a.b.c cut to level 1: %+v", k)
	}
	if k := Cut(p, 3, path("a.b.c")); k != key.Root(3) || !On(p, 3, k) || !On(p, 0, k) {
		t.Errorf("a.b.c cut to level 3: %+v", k)
	}
	if Cut(v4, 0, path("a")) != (api.Key{}) || Cut(p, 0, key.Root(1)) != (api.Key{}) || On(v4, 3, key.Root(2)) || Cut(v4, 3, key.Root(2)) != (api.Key{}) {
		t.Error("a key of another kind has a place")
	}
}

// TestLengths is of P8.3: lengths decrease down to 0, each by Step except the last one, which decreases by at most Step.
func TestLengths(t *testing.T) {
	for _, d := range rightDims() {
		last := Depth(d)
		if Len(d, 0) != widths[d.Kind] || Len(d, last) != 0 {
			t.Errorf("%+v: from %d to %d", d, Len(d, 0), Len(d, last))
		}
		for level := 1; level <= last; level++ {
			drop := Len(d, level-1) - Len(d, level)
			if drop < 1 || drop > d.Step || level < last && drop != d.Step {
				t.Errorf("%+v: level %d is shorter by %d", d, level, drop)
			}
		}
	}
}

// TestCuts is of P8.4.
func TestCuts(t *testing.T) {
	for _, d := range fewDims() {
		for _, k := range rightKeys() {
			for level := range Levels(d) {
				if !On(d, level, k) {
					continue
				}
				if c := Cut(d, level, k); c != k {
					t.Errorf("%+v: %+v, on level %d, cut to it: %+v", d, k, level, c)
				}
				for higher := level; higher <= Depth(d); higher++ {
					if c := Cut(d, higher, k); !On(d, higher, c) {
						t.Errorf("%+v: %+v, cut to level %d: %+v", d, k, higher, c)
					}
				}
			}
		}
	}
}

// TestAgreement is of P8.4: keys that agree when cut to one level agree when cut to every higher level.
func TestAgreement(t *testing.T) {
	pool := rightKeys()
	r := rand.New(rand.NewSource(8))
	for _, d := range fewDims() {
		for range 2000 {
			a, b := pool[r.Intn(len(pool))], pool[r.Intn(len(pool))]
			agreed := false
			for level := range Levels(d) {
				same := Cut(d, level, a) == Cut(d, level, b)
				if agreed && !same {
					t.Errorf("%+v: %+v and %+v differ on level %d", d, a, b, level)
				}
				agreed = same
			}
		}
	}
}

// TestAbove is of P8.5: the keys on higher levels that cover an address's key are its cuts, one on each level; of those that cover a path's key, its cut is the longest one.
func TestAbove(t *testing.T) {
	for _, d := range fewDims() {
		for _, k := range rightKeys() {
			for level := range Levels(d) {
				if !On(d, level, k) {
					continue
				}
				for higher := level + 1; higher <= Depth(d); higher++ {
					above := covering(d, higher, k)
					if len(above) == 0 || above[0] != Cut(d, higher, k) || d.Kind != 3 && len(above) != 1 {
						t.Errorf("%+v: above %+v on level %d: %+v", d, k, higher, above)
					}
				}
			}
		}
	}
}

// covering returns the keys on a level that cover k, the longest first.
func covering(d api.Dim, level int, k api.Key) []api.Key {
	var l []api.Key
	for c := range key.Up(k) {
		if On(d, level, c) {
			l = append(l, c)
		}
	}
	return l
}

// TestHandmade is of P1: whatever the dimension, the level and the key, each function returns.
func TestHandmade(t *testing.T) {
	r := rand.New(rand.NewSource(81))
	edges := []int{math.MinInt, math.MinInt + 1, -129, -1, 0, 1, 2, 3, 4, 8, 9, 32, 33, 128, 129, math.MaxInt - 1, math.MaxInt}
	pick := func() int { return edges[r.Intn(len(edges))] }
	for range 50000 {
		d := api.Dim{Kind: pick(), Side: pick(), Step: pick()}
		k := api.Key{Kind: pick(), Len: pick(), Hi: r.Uint64(), Path: strings.Repeat(".a", r.Intn(12))}
		level, n := pick(), pick()
		if On(d, level, k) || Cut(d, level, k) != (api.Key{}) {
			t.Fatalf("%+v on level %d of %+v", k, level, d)
		}
		got := Len(d, level)
		if got >= 0 && Level(d, got) != level || got < -1 || got < 0 && Right(d) && level >= 0 && level <= Depth(d) {
			t.Fatalf("Len(%+v, %d): %d", d, level, got)
		}
		if at := Level(d, n); at >= 0 && Len(d, at) != n || at < -1 {
			t.Fatalf("Level(%+v, %d): %d", d, n, at)
		}
	}
}
