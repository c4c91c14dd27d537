package grid

import (
	"math"
	"math/rand"
	"slices"
	"sort"
	"strings"
	"testing"

	"cribble/api"
	"cribble/key"
	"cribble/prefix"
	"cribble/wide"
)

// The widths of the kinds, apart from the program.
var widths = map[int]int{1: 32, 2: 128, 3: 8}

// Dimensions of all kinds and of both sides, with steps that divide the width and steps that do not.
var (
	four16 = api.Dim{Kind: 1, Side: 1, Step: 16}
	four12 = api.Dim{Kind: 1, Side: 2, Step: 12}
	four8  = api.Dim{Kind: 1, Side: 2, Step: 8}
	four1  = api.Dim{Kind: 1, Side: 1, Step: 1}
	four32 = api.Dim{Kind: 1, Side: 1, Step: 32}
	six48  = api.Dim{Kind: 2, Side: 2, Step: 48}
	six1   = api.Dim{Kind: 2, Side: 2, Step: 1}
	path3  = api.Dim{Kind: 3, Side: 1, Step: 3}
	path8  = api.Dim{Kind: 3, Side: 2, Step: 8}
	path1  = api.Dim{Kind: 3, Side: 2, Step: 1}
)

// one returns the space of a dimension.
func one(d api.Dim) api.Space { return api.Space{N: 1, D: [2]api.Dim{d}} }

// two returns the space of two dimensions.
func two(a, b api.Dim) api.Space { return api.Space{N: 2, D: [2]api.Dim{a, b}} }

// fewSpaces returns valid spaces of not many nodes, higher in the one dimension or in the other.
func fewSpaces() []api.Space {
	return []api.Space{
		one(four16), one(four12), one(four8), one(four32), one(six48), one(path3), one(path8), one(path1),
		two(four16, four16), two(four32, four8), two(four8, four32), two(path1, four16), two(four16, path1), two(four32, path8), two(path3, path3), two(six48, four12), two(path8, six48),
	}
}

// rightSpaces returns valid spaces of all sizes.
func rightSpaces() []api.Space {
	return append(fewSpaces(), one(four1), one(six1), two(four1, four1), two(six1, path1), two(path8, six1), two(four1, six48), two(six1, six1))
}

// wrongSpaces returns spaces that are not valid.
func wrongSpaces() []api.Space {
	l := []api.Space{{}, {N: 1}, {N: 2}, two(four16, api.Dim{}), two(api.Dim{}, four16), {N: 1, D: [2]api.Dim{four16, four12}}, {N: 1, D: [2]api.Dim{{}, four12}}, {N: 1, D: [2]api.Dim{four16, {Kind: 1}}}, {N: 1, D: [2]api.Dim{four16, {Side: 1}}}, {N: 1, D: [2]api.Dim{four16, {Step: 1}}}}
	for _, n := range []int{0, 3, 4, -1, -2, math.MinInt, math.MaxInt} {
		l = append(l, api.Space{N: n}, api.Space{N: n, D: [2]api.Dim{four16}}, api.Space{N: n, D: [2]api.Dim{four16, path3}})
	}
	for _, d := range []api.Dim{{Kind: 4, Side: 1, Step: 1}, {Kind: 1, Side: 1}, {Kind: 1, Side: 3, Step: 8}, {Kind: 1, Side: 1, Step: 33}, {Kind: 3, Side: 1, Step: 9}, {Kind: 2, Side: 1, Step: -1}, {Kind: 2, Side: 2, Step: math.MinInt}, {Kind: 1, Side: 1, Step: math.MaxInt}} {
		l = append(l, one(d), two(d, four16), two(four16, d), two(d, d))
	}
	return l
}

// depths returns the numbers of the last levels of a valid space, as chapter 8 defines them; 0 behind a single dimension.
func depths(s api.Space) [2]int {
	var l [2]int
	for i := range s.N {
		for n := widths[s.D[i].Kind]; n > 0; n -= s.D[i].Step {
			l[i]++
		}
	}
	return l
}

// ordered returns all combinations of levels of a valid space, in the order that the chapter defines.
func ordered(s api.Space) [][2]int {
	var l [][2]int
	last := depths(s)
	for a := range last[0] + 1 {
		for b := range last[1] + 1 {
			l = append(l, [2]int{a, b})
		}
	}
	sort.Slice(l, func(i, j int) bool {
		a, b := l[i], l[j]
		if a[0]+a[1] != b[0]+b[1] {
			return a[0]+a[1] < b[0]+b[1]
		}
		return a[0] < b[0]
	})
	return l
}

// strange returns what is no node of a valid space.
func strange(s api.Space) [][2]int {
	last := depths(s)
	l := [][2]int{{math.MinInt, 0}, {0, math.MinInt}, {math.MaxInt, 0}, {0, math.MaxInt}, {math.MaxInt, math.MaxInt}, {math.MinInt, math.MinInt}, {math.MinInt, math.MaxInt}, {math.MaxInt, math.MinInt}, {math.MaxInt, 1}, {-1, -1}, {last[0] + 1, last[1] + 1}, {-1, last[1] + 1}, {last[0] + 1, -1}}
	for a := range last[0] + 1 {
		l = append(l, [2]int{a, -1}, [2]int{a, last[1] + 1}, [2]int{a, math.MinInt}, [2]int{a, math.MaxInt})
	}
	for b := range last[1] + 1 {
		l = append(l, [2]int{-1, b}, [2]int{last[0] + 1, b}, [2]int{math.MinInt, b}, [2]int{math.MaxInt, b})
	}
	return l
}

// TestNodes is of P10.1 and P10.3: all nodes in order, their number and the last one's height.
func TestNodes(t *testing.T) {
	for _, s := range rightSpaces() {
		want := ordered(s)
		if l := Nodes(s); !slices.Equal(l, want) {
			t.Errorf("Nodes(%+v): %v", s, l)
		}
		if n := Count(s); n != len(want) {
			t.Errorf("Count(%+v): %d, not %d", s, n, len(want))
		}
		last := want[len(want)-1]
		if n := Tall(s); n != last[0]+last[1] {
			t.Errorf("Tall(%+v): %d, not %d", s, n, last[0]+last[1])
		}
	}
}

// TestNodesOnce is of P10.3: each node occurs once.
func TestNodesOnce(t *testing.T) {
	for _, s := range rightSpaces() {
		seen := map[[2]int]bool{}
		for _, at := range Nodes(s) {
			if seen[at] {
				t.Errorf("%+v: %v twice", s, at)
			}
			seen[at] = true
		}
		if len(seen) != Count(s) {
			t.Errorf("%+v: %d nodes, not %d", s, len(seen), Count(s))
		}
	}
}

// TestPlace is of P10.1 and P10.3: Place is the inverse of Nodes.
func TestPlace(t *testing.T) {
	for _, s := range rightSpaces() {
		for i, at := range ordered(s) {
			if n := Place(s, at); n != i {
				t.Errorf("Place(%+v, %v): %d, not %d", s, at, n, i)
			}
		}
		for _, at := range strange(s) {
			if n := Place(s, at); n != -1 {
				t.Errorf("Place(%+v, %v): %d", s, at, n)
			}
		}
	}
}

// TestOn is of P10.1: heights below 0, each one that there is, and beyond.
func TestOn(t *testing.T) {
	for _, s := range rightSpaces() {
		whole := ordered(s)
		last := depths(s)
		for height := -3; height <= last[0]+last[1]+3; height++ {
			var want [][2]int
			for _, at := range whole {
				if at[0]+at[1] == height {
					want = append(want, at)
				}
			}
			if l := On(s, height); !slices.Equal(l, want) {
				t.Errorf("On(%+v, %d): %v, not %v", s, height, l, want)
			}
		}
		for _, height := range []int{math.MinInt, math.MinInt + 1, math.MinInt + last[1], math.MaxInt - 1, math.MaxInt} {
			if l := On(s, height); len(l) != 0 {
				t.Errorf("On(%+v, %d): %v", s, height, l)
			}
		}
	}
}

// TestWalk is of P10.1: each index with its node, as often as it is asked for.
func TestWalk(t *testing.T) {
	for _, s := range rightSpaces() {
		walk := Walk(s)
		for range 2 {
			var l [][2]int
			for i, at := range walk {
				if i != len(l) {
					t.Errorf("Walk(%+v): index %d, not %d", s, i, len(l))
				}
				l = append(l, at)
			}
			if !slices.Equal(l, ordered(s)) {
				t.Errorf("Walk(%+v): %v", s, l)
			}
		}
	}
}

// TestWalkStops is of P10.1: the iteration is stopped after each node.
func TestWalkStops(t *testing.T) {
	for _, s := range fewSpaces() {
		whole := ordered(s)
		for n := 1; n <= len(whole); n++ {
			var l [][2]int
			Walk(s)(func(i int, at [2]int) bool {
				l = append(l, at)
				return len(l) < n
			})
			if !slices.Equal(l, whole[:n]) {
				t.Errorf("Walk(%+v), stopped after %d: %v", s, n, l)
			}
		}
	}
}

// TestExamples is of P10.1: the nodes that the chapter gives, and others, spelled out.
func TestExamples(t *testing.T) {
	for _, c := range []struct {
		s    api.Space
		want [][2]int
	}{
		{two(four16, four16), [][2]int{{0, 0}, {0, 1}, {1, 0}, {0, 2}, {1, 1}, {2, 0}, {1, 2}, {2, 1}, {2, 2}}},
		{two(four32, four12), [][2]int{{0, 0}, {0, 1}, {1, 0}, {0, 2}, {1, 1}, {0, 3}, {1, 2}, {1, 3}}},
		{two(four12, four32), [][2]int{{0, 0}, {0, 1}, {1, 0}, {1, 1}, {2, 0}, {2, 1}, {3, 0}, {3, 1}}},
		{one(four12), [][2]int{{0, 0}, {1, 0}, {2, 0}, {3, 0}}},
		{one(path8), [][2]int{{0, 0}, {1, 0}}},
	} {
		if l := Nodes(c.s); !slices.Equal(l, c.want) || Count(c.s) != len(c.want) {
			t.Errorf("Nodes(%+v): %v, %d", c.s, l, Count(c.s))
		}
	}
	if n := Place(two(four16, four16), [2]int{1, 1}); n != 4 {
		t.Errorf("Place of 1 1: %d", n)
	}
	if n := Count(two(six1, six1)); n != 129*129 {
		t.Errorf("Count of two IPv6 dimensions: %d", n)
	}
	if n := Tall(two(six1, path1)); n != 136 {
		t.Errorf("Tall of IPv6 and paths: %d", n)
	}
}

// path returns the key of a path.
func path(p string) api.Key {
	k, _ := key.Path(p)
	return k
}

// fullKeys returns keys of a kind that are on level 0; some of them agree for a while. The zero key stands behind a single dimension.
func fullKeys(kind int) []api.Key {
	switch kind {
	case 1:
		return []api.Key{key.Four(167837953), key.Four(167837954), key.Four(3232235777)}
	case 2:
		return []api.Key{key.Six(wide.Wide{Hi: 0x20010db8 << 32, Lo: 1}), key.Six(wide.Wide{Hi: 0x20010db8<<32 | 1}), key.Six(wide.Wide{Lo: 1})}
	case 3:
		return []api.Key{path("a.b.c.d.e.f"), path("a.b.c.x"), path("a.b"), path("")}
	}
	return []api.Key{{}}
}

// pool returns valid prefixes of a valid space, and with each one all that cover it: the prefixes over leaves, in the order of their nodes.
func pool(s api.Space) []api.Prefix {
	var l []api.Prefix
	seen := map[api.Prefix]bool{}
	for _, at := range ordered(s) {
		for _, a := range fullKeys(s.D[0].Kind) {
			for _, b := range fullKeys(s.D[1].Kind) {
				leaf := api.Prefix{Key: [2]api.Key{a, b}}
				p := prefix.Up(s, leaf, at)
				if !prefix.Right(s, p) {
					panic("a wrong prefix in the pool")
				}
				if !seen[p] {
					seen[p] = true
					l = append(l, p)
				}
			}
		}
	}
	return l
}

// wrongPrefixes returns prefixes that are not valid in a valid space.
func wrongPrefixes(s api.Space) []api.Prefix {
	l := []api.Prefix{{}, {At: [2]int{math.MaxInt, math.MaxInt}}, {At: [2]int{math.MinInt, math.MinInt}}}
	for _, p := range pool(s) {
		for i := range p.At {
			for _, level := range []int{math.MinInt, -1, p.At[i] + 1, depths(s)[i] + 1, math.MaxInt} {
				q := p
				q.At[i] = level
				l = append(l, q)
			}
			for _, k := range []api.Key{{}, {Kind: 1}, {Kind: 2}, {Kind: 3}, {Kind: 1, Len: 15}, {Kind: 1, Len: 33}, {Kind: 3, Path: "a"}, path("a.b.c.d.e.f.g.h"), {Kind: 4}, {Len: 1}} {
				q := p
				q.Key[i] = k
				l = append(l, q)
			}
		}
	}
	return slices.DeleteFunc(l, func(p api.Prefix) bool { return prefix.Right(s, p) })
}

// TestAll is of P10.2 and P10.4: what covers a prefix is looked for among all prefixes whose keys occur.
func TestAll(t *testing.T) {
	for _, s := range fewSpaces() {
		l := pool(s)
		for _, p := range l {
			var want []api.Prefix
			for _, q := range l {
				if prefix.Over(s, q, p) {
					want = append(want, q)
				}
			}
			if got := All(s, p); !slices.Equal(got, want) {
				t.Errorf("All(%+v, %+v): %+v, not %+v", s, p, got, want)
			}
		}
	}
}

// TestCovers is of P10.4: a prefix covers another one exactly if it is in All of that one.
func TestCovers(t *testing.T) {
	r := rand.New(rand.NewSource(104))
	for _, s := range fewSpaces() {
		l := pool(s)
		for _, q := range l {
			all := All(s, q)
			for range 30 {
				p := l[r.Intn(len(l))]
				if prefix.Over(s, p, q) != slices.Contains(all, p) {
					t.Errorf("%+v: %+v over %+v, not as in All", s, p, q)
				}
			}
			for _, p := range all {
				if !prefix.Over(s, p, q) {
					t.Errorf("%+v: %+v in All of %+v", s, p, q)
				}
			}
		}
	}
}

// TestParents is of P10.2: of what covers a prefix, its parents are one level higher in one dimension.
func TestParents(t *testing.T) {
	for _, s := range fewSpaces() {
		l := pool(s)
		for _, p := range l {
			var want []api.Prefix
			for _, up := range [][2]int{{1, 0}, {0, 1}} {
				for _, q := range l {
					if q.At == [2]int{p.At[0] + up[0], p.At[1] + up[1]} && prefix.Over(s, q, p) {
						want = append(want, q)
					}
				}
			}
			if got := Parents(s, p); !slices.Equal(got, want) {
				t.Errorf("Parents(%+v, %+v): %+v, not %+v", s, p, got, want)
			}
		}
	}
}

// TestAbove is of P10.5: every prefix that covers p and is not p covers one of the parents of p.
func TestAbove(t *testing.T) {
	for _, s := range fewSpaces() {
		for _, p := range pool(s) {
			parents := Parents(s, p)
			for _, q := range All(s, p) {
				covers := slices.ContainsFunc(parents, func(m api.Prefix) bool { return prefix.Over(s, q, m) })
				if covers != (q != p) {
					t.Errorf("%+v: %+v over %+v, whose parents are %+v", s, q, p, parents)
				}
			}
		}
	}
}

// TestEnds is of P10.2: leaves, the top and a prefix between, spelled out.
func TestEnds(t *testing.T) {
	s := two(four16, path3)
	at := func(a, b, n int, p string) api.Prefix {
		return api.Prefix{At: [2]int{a, b}, Key: [2]api.Key{key.Cut(key.Four(167837953), n), path(p)}}
	}
	leaf := at(0, 0, 32, "a.b.c")
	all := []api.Prefix{
		leaf, at(0, 1, 32, "a.b.c"), at(1, 0, 16, "a.b.c"), at(0, 2, 32, "a.b"), at(1, 1, 16, "a.b.c"), at(2, 0, 0, "a.b.c"),
		at(0, 3, 32, ""), at(1, 2, 16, "a.b"), at(2, 1, 0, "a.b.c"), at(1, 3, 16, ""), at(2, 2, 0, "a.b"), at(2, 3, 0, ""),
	}
	if l := All(s, leaf); !slices.Equal(l, all) {
		t.Errorf("All of a leaf: %+v", l)
	}
	if l := Parents(s, leaf); !slices.Equal(l, []api.Prefix{all[2], all[1]}) {
		t.Errorf("Parents of a leaf: %+v", l)
	}
	if l := All(s, all[7]); !slices.Equal(l, []api.Prefix{all[7], all[9], all[10], all[11]}) {
		t.Errorf("All of a prefix between: %+v", l)
	}
	if l := Parents(s, all[7]); !slices.Equal(l, []api.Prefix{all[10], all[9]}) {
		t.Errorf("Parents of a prefix between: %+v", l)
	}
	if l := Parents(s, all[10]); !slices.Equal(l, []api.Prefix{all[11]}) {
		t.Errorf("Parents on the last level of a dimension: %+v", l)
	}
	top := prefix.Top(s)
	if l := All(s, top); !slices.Equal(l, []api.Prefix{top}) || len(Parents(s, top)) != 0 {
		t.Errorf("All and Parents of the top: %+v, %+v", l, Parents(s, top))
	}
	single := api.Prefix{Key: [2]api.Key{path("a.b.c")}}
	up := []api.Prefix{single, {At: [2]int{1}, Key: [2]api.Key{path("a.b.c")}}, {At: [2]int{2}, Key: [2]api.Key{path("a.b")}}, {At: [2]int{3}, Key: [2]api.Key{path("")}}}
	for i, p := range up {
		if l := All(one(path3), p); !slices.Equal(l, up[i:]) {
			t.Errorf("All in one dimension: %+v", l)
		}
		if l := Parents(one(path3), p); !slices.Equal(l, up[i+1:min(i+2, len(up))]) {
			t.Errorf("Parents in one dimension: %+v", l)
		}
	}
}

// TestGreat is of P10.2: all prefixes over a leaf of the largest space.
func TestGreat(t *testing.T) {
	s := two(six1, six1)
	leaf := api.Prefix{Key: [2]api.Key{key.Six(wide.Wide{Hi: 1, Lo: 1}), key.Six(wide.Wide{Hi: math.MaxUint64, Lo: math.MaxUint64})}}
	l := All(s, leaf)
	nodes := ordered(s)
	if len(l) != len(nodes) {
		t.Fatalf("%d of %d prefixes", len(l), len(nodes))
	}
	for i, p := range l {
		want := api.Prefix{At: nodes[i], Key: [2]api.Key{key.Cut(leaf.Key[0], 128-nodes[i][0]), key.Cut(leaf.Key[1], 128-nodes[i][1])}}
		if p != want {
			t.Fatalf("prefix %d: %+v, not %+v", i, p, want)
		}
	}
}

// TestWrongPrefixes is of P10.2: nothing covers a prefix that is not valid.
func TestWrongPrefixes(t *testing.T) {
	for _, s := range fewSpaces() {
		for _, p := range wrongPrefixes(s) {
			if all, parents := All(s, p), Parents(s, p); len(all) != 0 || len(parents) != 0 {
				t.Errorf("All and Parents(%+v, %+v): %+v, %+v", s, p, all, parents)
			}
		}
	}
}

// TestWrongSpaces is of P10.1 and P10.2: a space that is not valid has no nodes and no prefixes.
func TestWrongSpaces(t *testing.T) {
	for _, s := range wrongSpaces() {
		if Count(s) != 0 || Tall(s) != 0 || len(Nodes(s)) != 0 {
			t.Errorf("%+v: Count %d, Tall %d, Nodes %v", s, Count(s), Tall(s), Nodes(s))
		}
		for i, at := range Walk(s) {
			t.Errorf("Walk(%+v): %d, %v", s, i, at)
		}
		for _, level := range []int{math.MinInt, -2, -1, 0, 1, 2, 3, math.MaxInt} {
			if l := On(s, level); len(l) != 0 {
				t.Errorf("On(%+v, %d): %v", s, level, l)
			}
			for _, other := range []int{math.MinInt, -1, 0, 1, math.MaxInt} {
				if n := Place(s, [2]int{level, other}); n != -1 {
					t.Errorf("Place(%+v, %d %d): %d", s, level, other, n)
				}
			}
		}
		for _, p := range []api.Prefix{{}, {Key: [2]api.Key{key.Four(1)}}, {Key: [2]api.Key{key.Four(1), key.Four(1)}}, {Key: [2]api.Key{key.Four(1), path("a")}}, {At: [2]int{2}, Key: [2]api.Key{key.Root(1)}}, {At: [2]int{math.MaxInt, math.MaxInt}}} {
			if all, parents := All(s, p), Parents(s, p); len(all) != 0 || len(parents) != 0 {
				t.Errorf("All and Parents(%+v, %+v): %+v, %+v", s, p, all, parents)
			}
		}
	}
}

// TestNewMemory is of rule 5: results are new memory, call by call.
func TestNewMemory(t *testing.T) {
	s := two(four16, path3)
	p := api.Prefix{Key: [2]api.Key{key.Four(167837953), path("a.b.c")}}
	all, parents, nodes, on := All(s, p), Parents(s, p), Nodes(s), On(s, 2)
	clear(all)
	clear(parents)
	clear(nodes)
	clear(on)
	if l := All(s, p); l[0] != p || len(l) != 12 {
		t.Errorf("All: %+v", l)
	}
	if l := Parents(s, p); len(l) != 2 || l[0].At != [2]int{1, 0} {
		t.Errorf("Parents: %+v", l)
	}
	if !slices.Equal(Nodes(s), ordered(s)) || !slices.Equal(On(s, 2), [][2]int{{0, 2}, {1, 1}, {2, 0}}) {
		t.Errorf("Nodes and On: %v, %v", Nodes(s), On(s, 2))
	}
}

// TestHandmade is of P1: whatever the space, the node, the height and the prefix, each function returns.
func TestHandmade(t *testing.T) {
	r := rand.New(rand.NewSource(101))
	edges := []int{math.MinInt, -129, -1, 0, 1, 1, 2, 2, 3, 4, 8, 9, 32, 33, 128, 129, math.MaxInt}
	pick := func() int { return edges[r.Intn(len(edges))] }
	handKey := func() api.Key {
		return api.Key{Kind: pick(), Len: pick(), Hi: r.Uint64() & uint64(pick()), Lo: uint64(pick()), Path: strings.Repeat(".a", r.Intn(10))}
	}
	handDim := func() api.Dim { return api.Dim{Kind: pick(), Side: pick(), Step: pick()} }
	for range 20000 {
		s := api.Space{N: pick(), D: [2]api.Dim{handDim(), handDim()}}
		p := api.Prefix{At: [2]int{pick(), pick()}, Key: [2]api.Key{handKey(), handKey()}}
		if n := Place(s, p.At); n >= 0 && Nodes(s)[n] != p.At || n < -1 || n >= Count(s) {
			t.Fatalf("Place(%+v, %v): %d", s, p.At, n)
		}
		if height := pick(); len(On(s, height)) != 0 && (height < 0 || height > Tall(s)) {
			t.Fatalf("On(%+v, %d)", s, height)
		}
		if all := All(s, p); (len(all) != 0) != prefix.Right(s, p) || len(Parents(s, p)) > len(all) {
			t.Fatalf("All or Parents(%+v, %+v): %+v", s, p, all)
		}
		for i, at := range Walk(s) {
			if i != 0 || at != [2]int{} {
				t.Fatalf("Walk(%+v) begins with %d, %v", s, i, at)
			}
			break
		}
	}
}
