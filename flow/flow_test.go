package flow

import (
	"math"
	"math/big"
	"math/rand"
	"slices"
	"strings"
	"testing"

	"cribble/api"
	"cribble/key"
	"cribble/prefix"
	"cribble/wide"
)

const full = math.MaxUint64

// The widths of the kinds, apart from the program.
var widths = map[int]int{1: 32, 2: 128, 3: 8}

// path returns the key of a path.
func path(p string) api.Key {
	k, _ := key.Path(p)
	return k
}

// Addresses and paths that occur in examples.
var (
	ten     = key.Four(167772161)
	eleven  = key.Four(184549377)
	six     = key.Six(wide.Wide{Hi: 0x20010db8 << 32, Lo: 1})
	allSix  = key.Six(wide.Wide{Hi: full, Lo: full})
	noPath  = path("")
	dc1     = path("net.dc1")
	eight   = path("a.b.c.d.e.f.g.h")
	missing = api.Key{}
)

// addresses returns what may be an address of a flow.
func addresses() []api.Key {
	return []api.Key{missing, ten, eleven, key.Four(0), key.Four(math.MaxUint32), six, allSix, key.Six(wide.Wide{})}
}

// paths returns what may be a path of a flow.
func paths() []api.Key {
	return []api.Key{missing, noPath, dc1, eight, path(strings.Repeat("z", 16))}
}

// handmade returns keys that are not valid.
func handmade() []api.Key {
	return []api.Key{
		{Len: 1}, {Len: 32}, {Hi: 1}, {Lo: 1}, {Path: "a"}, {Path: "."}, {Kind: 4}, {Kind: 4, Len: 32}, {Kind: -1}, {Kind: math.MinInt, Len: math.MinInt}, {Kind: math.MaxInt, Len: math.MaxInt},
		{Kind: 1, Len: -1}, {Kind: 1, Len: 33}, {Kind: 1, Len: 128}, {Kind: 1, Len: 32, Hi: 1}, {Kind: 1, Len: 32, Lo: 1}, {Kind: 1, Len: 32, Path: "a"}, {Kind: 1, Len: 31, Hi: 1 << 32}, {Kind: 1, Hi: 1 << 63}, {Kind: 1, Len: math.MaxInt},
		{Kind: 2, Len: -1}, {Kind: 2, Len: 129}, {Kind: 2, Len: 127, Lo: 1}, {Kind: 2, Len: 128, Path: "a"}, {Kind: 2, Lo: 1}, {Kind: 2, Len: math.MinInt},
		{Kind: 3, Len: 1}, {Kind: 3, Path: "a"}, {Kind: 3, Len: 2, Path: "a"}, {Kind: 3, Len: 1, Path: "A"}, {Kind: 3, Len: 2, Path: "a."}, {Kind: 3, Len: 1, Path: "a", Hi: 1}, {Kind: 3, Lo: 1}, {Kind: 3, Len: 9, Path: eight.Path + ".i"}, {Kind: 3, Len: 8}, {Kind: 3, Len: -1},
	}
}

// wrongAddresses returns what may not be an address of a flow.
func wrongAddresses() []api.Key {
	return append(handmade(),
		key.Root(1), key.Root(2), key.Cut(ten, 31), key.Cut(ten, 1), key.Cut(key.Four(0), 31), key.Cut(six, 127), key.Cut(six, 32), key.Cut(allSix, 64), key.Cut(allSix, 1),
		noPath, dc1, eight, path("a"))
}

// wrongPaths returns what may not be a path of a flow.
func wrongPaths() []api.Key {
	return append(handmade(), key.Root(1), key.Root(2), ten, six, allSix, key.Four(0), key.Cut(ten, 8), key.Cut(six, 8))
}

// rightFlows returns valid flows, with all combinations of addresses and paths.
func rightFlows() []api.Record {
	numbers := []uint64{0, 1, 3, 500, 1<<62 - 1, 1 << 62, full}
	var l []api.Record
	for _, a := range addresses() {
		for _, b := range addresses() {
			for _, p := range paths() {
				for _, q := range paths() {
					n := len(l)
					l = append(l, api.Record{Addr: [2]api.Key{a, b}, Path: [2]api.Key{p, q}, Packets: numbers[n%7], Bytes: numbers[n/7%7]})
				}
			}
		}
	}
	return l
}

// someRight returns a few of the valid flows: one with nothing, and ones with addresses and paths on both sides.
func someRight() []api.Record {
	return []api.Record{
		{}, {Packets: 7, Bytes: 8},
		{Addr: [2]api.Key{ten, six}, Path: [2]api.Key{dc1, noPath}, Packets: 3, Bytes: 500},
		{Addr: [2]api.Key{allSix, eleven}, Path: [2]api.Key{missing, eight}, Packets: full, Bytes: full},
	}
}

// wrongFlows returns flows that are not valid: one of their keys, or more than one, is not what it has to be.
func wrongFlows() []api.Record {
	var l []api.Record
	for _, f := range someRight() {
		for i, k := range append(wrongAddresses(), missing) {
			for side := range 2 {
				g := f
				g.Addr[side] = k
				l = append(l, g)
				g.Path[1-side] = wrongPaths()[i%len(wrongPaths())]
				l = append(l, g)
			}
		}
		for _, k := range wrongPaths() {
			for side := range 2 {
				g := f
				g.Path[side] = k
				l = append(l, g)
				g.Path[1-side] = k
				l = append(l, g)
			}
		}
	}
	return slices.DeleteFunc(l, valid)
}

// valid is what the chapter calls a valid flow.
func valid(f api.Record) bool {
	for side := range 2 {
		a, p := f.Addr[side], f.Path[side]
		address := key.Right(a) && (a.Kind == 1 && a.Len == 32 || a.Kind == 2 && a.Len == 128)
		if a != missing && !address || p != missing && (!key.Right(p) || p.Kind != 3) {
			return false
		}
	}
	return true
}

// rightDims returns valid dimensions of each kind and of each side.
func rightDims() []api.Dim {
	var l []api.Dim
	for kind := 1; kind <= 3; kind++ {
		for side := 1; side <= 2; side++ {
			for _, step := range []int{1, 3, widths[kind]} {
				l = append(l, api.Dim{Kind: kind, Side: side, Step: step})
			}
		}
	}
	return l
}

// wrongDims returns dimensions that are not valid.
func wrongDims() []api.Dim {
	return []api.Dim{
		{}, {Kind: 1}, {Side: 1}, {Step: 1}, {Kind: 1, Side: 1}, {Kind: 3, Side: 2}, {Kind: 1, Step: 8}, {Side: 2, Step: 8}, {Kind: 4, Side: 1, Step: 1}, {Kind: -1, Side: 1, Step: 1},
		{Kind: 1, Side: 0, Step: 8}, {Kind: 1, Side: 3, Step: 8}, {Kind: 1, Side: -1, Step: 8}, {Kind: 3, Side: 0, Step: 3}, {Kind: 3, Side: 3, Step: 3}, {Kind: 2, Side: math.MaxInt, Step: 8}, {Kind: 2, Side: math.MinInt, Step: 8},
		{Kind: 1, Side: 1, Step: 33}, {Kind: 1, Side: 1, Step: -8}, {Kind: 2, Side: 2, Step: 129}, {Kind: 3, Side: 1, Step: 9}, {Kind: 3, Side: 2, Step: -1}, {Kind: 1, Side: 2, Step: 0}, {Kind: 3, Side: 1, Step: math.MaxInt}, {Kind: math.MinInt, Side: math.MinInt, Step: math.MinInt},
	}
}

// one returns the space of a dimension.
func one(d api.Dim) api.Space { return api.Space{N: 1, D: [2]api.Dim{d}} }

// two returns the space of two dimensions.
func two(a, b api.Dim) api.Space { return api.Space{N: 2, D: [2]api.Dim{a, b}} }

// rightSpaces returns valid spaces of one and of two dimensions.
func rightSpaces() []api.Space {
	var l []api.Space
	for _, d := range rightDims() {
		l = append(l, one(d))
		for _, e := range rightDims() {
			l = append(l, two(d, e))
		}
	}
	return l
}

// wrongSpaces returns spaces that are not valid.
func wrongSpaces() []api.Space {
	four, labels := api.Dim{Kind: 1, Side: 1, Step: 8}, api.Dim{Kind: 3, Side: 2, Step: 2}
	l := []api.Space{{}}
	for _, n := range []int{0, 3, 4, -1, math.MinInt, math.MaxInt} {
		for _, d := range [][2]api.Dim{{}, {four}, {four, labels}, {{}, labels}, {labels, labels}} {
			l = append(l, api.Space{N: n, D: d})
		}
	}
	for _, d := range wrongDims() {
		l = append(l, one(d), two(d, four), two(labels, d), two(d, d))
	}
	for _, d := range append(rightDims(), wrongDims()[1:]...) {
		l = append(l, api.Space{N: 1, D: [2]api.Dim{four, d}}, api.Space{N: 1, D: [2]api.Dim{{}, d}})
	}
	return l
}

// keyOf is what the chapter calls the key of a valid flow in a valid dimension.
func keyOf(f api.Record, d api.Dim) (api.Key, bool) {
	address, p := f.Addr[0], f.Path[0]
	if d.Side == 2 {
		address, p = f.Addr[1], f.Path[1]
	}
	switch {
	case d.Kind < 3 && address.Kind == d.Kind:
		return address, true
	case d.Kind == 3 && p != missing:
		return p, true
	}
	return missing, false
}

// leafOf is what the chapter calls the leaf of the keys of a valid flow in a valid space.
func leafOf(f api.Record, s api.Space) (api.Prefix, bool) {
	var leaf api.Prefix
	for i := range s.N {
		k, ok := keyOf(f, s.D[i])
		if !ok {
			return api.Prefix{}, false
		}
		leaf.Key[i] = k
	}
	return leaf, true
}

// TestRight is of P13.1.
func TestRight(t *testing.T) {
	for _, f := range append(rightFlows(), someRight()...) {
		if !valid(f) || !Right(f) {
			t.Errorf("Right(%+v): false", f)
		}
	}
	l := wrongFlows()
	if len(l) < 500 {
		t.Errorf("only %d flows are not valid", len(l))
	}
	for _, f := range l {
		if Right(f) {
			t.Errorf("Right(%+v): true", f)
		}
	}
}

// TestRightEdges is of P13.1: each key in each place.
func TestRightEdges(t *testing.T) {
	for _, c := range []struct {
		name          string
		k             api.Key
		address, path bool
	}{
		{"none", missing, true, true}, {"IPv4", ten, true, false}, {"IPv4 0", key.Four(0), true, false}, {"IPv6", six, true, false}, {"IPv6 0", key.Six(wide.Wide{}), true, false},
		{"a path", dc1, false, true}, {"all labels", eight, false, true}, {"no labels", noPath, false, true},
		{"31 bits", key.Cut(ten, 31), false, false}, {"127 bits", key.Cut(six, 127), false, false}, {"IPv6 of 32 bits", key.Cut(six, 32), false, false}, {"no bits of IPv4", key.Root(1), false, false}, {"no bits of IPv6", key.Root(2), false, false},
		{"33 bits", api.Key{Kind: 1, Len: 33}, false, false}, {"129 bits", api.Key{Kind: 2, Len: 129}, false, false}, {"bits behind IPv4", api.Key{Kind: 1, Len: 32, Hi: 1}, false, false}, {"no path", api.Key{Kind: 3, Len: 1, Path: "-"}, false, false}, {"a wrong number of labels", api.Key{Kind: 3, Len: 2, Path: "a"}, false, false}, {"kind 4", api.Key{Kind: 4}, false, false}, {"kind 0", api.Key{Hi: 1}, false, false},
	} {
		for side := range 2 {
			for _, f := range someRight() {
				f.Addr[side] = c.k
				if Right(f) != c.address {
					t.Errorf("%s as address %d of %+v: %v", c.name, side, f, !c.address)
				}
			}
			for _, f := range someRight() {
				f.Path[side] = c.k
				if Right(f) != c.path {
					t.Errorf("%s as path %d of %+v: %v", c.name, side, f, !c.path)
				}
			}
		}
	}
}

// TestKey is of P13.1: valid flows and valid dimensions.
func TestKey(t *testing.T) {
	found := 0
	for _, f := range rightFlows() {
		for _, d := range rightDims() {
			want, is := keyOf(f, d)
			if k, ok := Key(f, d); k != want || ok != is {
				t.Errorf("Key(%+v, %+v): %+v, %v", f, d, k, ok)
			}
			if is {
				found++
			}
		}
	}
	if found < 1000 {
		t.Errorf("only %d keys", found)
	}
}

// TestKeyExamples is of P13.1: the flow of the chapter, and what it lacks.
func TestKeyExamples(t *testing.T) {
	f := api.Record{Addr: [2]api.Key{ten, six}, Path: [2]api.Key{noPath, missing}, Packets: 3}
	for _, c := range []struct {
		d    api.Dim
		want api.Key
		ok   bool
	}{
		{api.Dim{Kind: 1, Side: 1, Step: 8}, ten, true}, {api.Dim{Kind: 1, Side: 1, Step: 32}, ten, true}, {api.Dim{Kind: 1, Side: 2, Step: 8}, missing, false},
		{api.Dim{Kind: 2, Side: 1, Step: 8}, missing, false}, {api.Dim{Kind: 2, Side: 2, Step: 128}, six, true}, {api.Dim{Kind: 2, Side: 2, Step: 1}, six, true},
		{api.Dim{Kind: 3, Side: 1, Step: 8}, noPath, true}, {api.Dim{Kind: 3, Side: 2, Step: 8}, missing, false},
		{api.Dim{Kind: 1, Side: 1, Step: 33}, missing, false}, {api.Dim{Kind: 1, Side: 0, Step: 8}, missing, false}, {api.Dim{Kind: 1, Side: 3, Step: 8}, missing, false}, {api.Dim{Kind: 0, Side: 1, Step: 8}, missing, false}, {api.Dim{Kind: 0, Side: 2, Step: 0}, missing, false}, {api.Dim{Kind: 3, Side: 1, Step: 0}, missing, false},
	} {
		if k, ok := Key(f, c.d); k != c.want || ok != c.ok {
			t.Errorf("Key in %+v: %+v, %v", c.d, k, ok)
		}
	}
}

// TestKeyWrong is of P13.1 and P1: flows and dimensions that are not valid, whichever side is at fault.
func TestKeyWrong(t *testing.T) {
	for _, f := range wrongFlows() {
		for _, d := range append(rightDims(), wrongDims()...) {
			if k, ok := Key(f, d); k != missing || ok {
				t.Errorf("Key(%+v, %+v): %+v, %v", f, d, k, ok)
			}
		}
	}
	for _, f := range append(rightFlows(), someRight()...) {
		for _, d := range wrongDims() {
			if k, ok := Key(f, d); k != missing || ok {
				t.Errorf("Key(%+v, %+v): %+v, %v", f, d, k, ok)
			}
		}
	}
}

// TestLeaf is of P13.1 and P13.4: the leaf consists of the keys, and there is one exactly if there is a key in each dimension.
func TestLeaf(t *testing.T) {
	r := rand.New(rand.NewSource(13))
	flows := rightFlows()
	for _, s := range rightSpaces() {
		found := 0
		for range 300 {
			f := flows[r.Intn(len(flows))]
			want, is := leafOf(f, s)
			p, ok := Leaf(s, f)
			if p != want || ok != is {
				t.Fatalf("Leaf(%+v, %+v): %+v, %v", s, f, p, ok)
			}
			if !ok {
				continue
			}
			found++
			if !prefix.Right(s, p) || p.At != [2]int{} {
				t.Fatalf("Leaf(%+v, %+v): %+v is no leaf", s, f, p)
			}
			for i := range s.N {
				if k, ok := Key(f, s.D[i]); !ok || k != p.Key[i] {
					t.Fatalf("Leaf(%+v, %+v): %+v, but the key is %+v, %v", s, f, p, k, ok)
				}
			}
		}
		// An address has one kind, so a flow has no keys of two kinds of addresses on one side.
		none := s.N == 2 && s.D[0].Side == s.D[1].Side && s.D[0].Kind+s.D[1].Kind == 3
		if found == 0 != none {
			t.Errorf("%d leaves in %+v", found, s)
		}
	}
}

// TestLeafExamples is of P13.1: one key for one dimension, and both for two.
func TestLeafExamples(t *testing.T) {
	f := api.Record{Addr: [2]api.Key{ten, six}, Path: [2]api.Key{noPath, missing}, Bytes: 500}
	four, other := api.Dim{Kind: 1, Side: 1, Step: 8}, api.Dim{Kind: 2, Side: 2, Step: 16}
	from, to := api.Dim{Kind: 3, Side: 1, Step: 2}, api.Dim{Kind: 3, Side: 2, Step: 2}
	for _, c := range []struct {
		s    api.Space
		want api.Prefix
		ok   bool
	}{
		{one(four), api.Prefix{Key: [2]api.Key{ten}}, true}, {one(other), api.Prefix{Key: [2]api.Key{six}}, true}, {one(from), api.Prefix{Key: [2]api.Key{noPath}}, true}, {one(to), api.Prefix{}, false},
		{two(four, other), api.Prefix{Key: [2]api.Key{ten, six}}, true}, {two(other, four), api.Prefix{Key: [2]api.Key{six, ten}}, true}, {two(four, four), api.Prefix{Key: [2]api.Key{ten, ten}}, true}, {two(four, from), api.Prefix{Key: [2]api.Key{ten, noPath}}, true},
		{two(four, to), api.Prefix{}, false}, {two(to, four), api.Prefix{}, false}, {two(to, to), api.Prefix{}, false},
		{api.Space{N: 1, D: [2]api.Dim{four, other}}, api.Prefix{}, false}, {api.Space{N: 2, D: [2]api.Dim{four}}, api.Prefix{}, false}, {api.Space{N: 0, D: [2]api.Dim{four}}, api.Prefix{}, false}, {api.Space{N: 3, D: [2]api.Dim{four, other}}, api.Prefix{}, false}, {api.Space{}, api.Prefix{}, false},
	} {
		if p, ok := Leaf(c.s, f); p != c.want || ok != c.ok {
			t.Errorf("Leaf in %+v: %+v, %v", c.s, p, ok)
		}
	}
}

// TestLeafWrong is of P13.1 and P1: flows and spaces that are not valid.
func TestLeafWrong(t *testing.T) {
	flows := rightFlows()
	for i, s := range wrongSpaces() {
		for j := i % 16; j < len(flows); j += 16 {
			if p, ok := Leaf(s, flows[j]); p != (api.Prefix{}) || ok {
				t.Errorf("Leaf(%+v, %+v): %+v, %v", s, flows[j], p, ok)
			}
		}
	}
	spaces := append(rightSpaces(), wrongSpaces()...)
	for i, f := range wrongFlows() {
		for j := i % 8; j < len(spaces); j += 8 {
			if p, ok := Leaf(spaces[j], f); p != (api.Prefix{}) || ok {
				t.Errorf("Leaf(%+v, %+v): %+v, %v", spaces[j], f, p, ok)
			}
		}
	}
}

// TestLeafHasNoWeight is of P13.4: other numbers of packets and bytes give the same leaf.
func TestLeafHasNoWeight(t *testing.T) {
	flows := rightFlows()
	for i, s := range rightSpaces() {
		for j := i % 40; j < len(flows); j += 40 {
			f, g := flows[j], flows[j]
			g.Packets, g.Bytes = f.Bytes+1, ^f.Packets
			p, ok := Leaf(s, f)
			if q, is := Leaf(s, g); p != q || ok != is {
				t.Errorf("in %+v, %+v has %+v, %v; %+v has %+v, %v", s, f, p, ok, g, q, is)
			}
		}
	}
}

// TestWeight is of P13.1: each way to weigh, and whether a flow is valid does not matter.
func TestWeight(t *testing.T) {
	for _, keys := range [][2]api.Key{{ten, six}, {}, {key.Cut(ten, 8)}, {{Kind: 4}, dc1}} {
		for _, n := range []uint64{0, 1, 3, 1 << 62, 1<<62 + 1, full} {
			f := api.Record{Addr: keys, Path: keys, Packets: n, Bytes: ^n}
			for by, want := range map[int]uint64{0: 0, 1: 1, 2: n, 3: ^n, 4: 0, 5: 0, -1: 0, -2: 0, -3: 0, math.MinInt: 0, math.MaxInt: 0, 1 << 32: 0, 1<<32 + 1: 0, 1<<32 + 3: 0} {
				if got := Weight(f, by); got != want {
					t.Errorf("Weight(%+v, %d): %d, not %d", f, by, got, want)
				}
			}
		}
	}
	for _, f := range wrongFlows() {
		if Weight(f, 1) != 1 || Weight(f, 2) != f.Packets || Weight(f, 3) != f.Bytes {
			t.Errorf("Weight of %+v", f)
		}
	}
}

// TestTurned is of P13.2 and P13.3: turned once and twice, whether valid or not.
func TestTurned(t *testing.T) {
	for _, f := range append(append(rightFlows(), someRight()...), wrongFlows()...) {
		want := api.Record{Addr: [2]api.Key{f.Addr[1], f.Addr[0]}, Path: [2]api.Key{f.Path[1], f.Path[0]}, Packets: f.Packets, Bytes: f.Bytes}
		g := Turned(f)
		if g != want {
			t.Errorf("Turned(%+v): %+v", f, g)
		}
		if Turned(g) != f {
			t.Errorf("%+v turned twice: %+v", f, Turned(g))
		}
		if Right(g) != Right(f) {
			t.Errorf("%+v is right: %v, and turned: %v", f, Right(f), Right(g))
		}
	}
}

// TestTurnedKey is of P13.3: the keys of a turned flow are those of the other side.
func TestTurnedKey(t *testing.T) {
	for _, f := range append(rightFlows(), wrongFlows()...) {
		for _, d := range rightDims() {
			other := d
			other.Side = 3 - d.Side
			k, ok := Key(Turned(f), d)
			if want, is := Key(f, other); k != want || ok != is {
				t.Errorf("Key of turned %+v in %+v: %+v, %v; not %+v, %v", f, d, k, ok, want, is)
			}
		}
	}
}

// sumOf returns the sum of the weights of those flows that have a leaf, in integers of the library.
func sumOf(l []api.Record, s api.Space, by int) *big.Int {
	sum := new(big.Int)
	if !prefix.Sound(s) {
		return sum
	}
	for _, f := range l {
		if _, ok := leafOf(f, s); !ok || !valid(f) {
			continue
		}
		switch by {
		case 1:
			sum.Add(sum, big.NewInt(1))
		case 2:
			sum.Add(sum, new(big.Int).SetUint64(f.Packets))
		case 3:
			sum.Add(sum, new(big.Int).SetUint64(f.Bytes))
		}
	}
	return sum
}

// checkTotal tells if the total of l is not what the chapter says.
func checkTotal(t *testing.T, l []api.Record, s api.Space, by int) {
	t.Helper()
	sum, want := sumOf(l, s, by), api.OK
	if sum.Cmp(big.NewInt(1<<62)) > 0 {
		sum, want = new(big.Int), api.ErrOver
	}
	before := slices.Clone(l)
	n, e := Total(l, s, by)
	if new(big.Int).SetUint64(n).Cmp(sum) != 0 || e != want {
		t.Errorf("the total of %d flows in %+v by %d: %d, %v; not %v, %v", len(l), s, by, n, e, sum, want)
	}
	if !slices.Equal(l, before) {
		t.Errorf("Total has changed its list %+v", before)
	}
}

// loads returns flows of so many bytes, from 10.0.0.1.
func loads(l ...uint64) []api.Record {
	var flows []api.Record
	for i, n := range l {
		flows = append(flows, api.Record{Addr: [2]api.Key{ten}, Packets: uint64(i), Bytes: n})
	}
	return flows
}

// TestTotalEdges is of P13.2: exactly MaxTotal, and one more; weights that together need more than 64 bits.
func TestTotalEdges(t *testing.T) {
	s := one(api.Dim{Kind: 1, Side: 1, Step: 8})
	const most = 1 << 62
	for _, c := range []struct {
		l    []uint64
		want uint64
		e    api.Errno
	}{
		{nil, 0, api.OK}, {[]uint64{0}, 0, api.OK}, {[]uint64{5, 3, 1}, 9, api.OK},
		{[]uint64{most - 1}, most - 1, api.OK}, {[]uint64{most}, most, api.OK}, {[]uint64{most + 1}, 0, api.ErrOver}, {[]uint64{full}, 0, api.ErrOver}, {[]uint64{1 << 63}, 0, api.ErrOver},
		{[]uint64{most - 1, 1}, most, api.OK}, {[]uint64{1, most - 1}, most, api.OK}, {[]uint64{most, 0, 0}, most, api.OK}, {[]uint64{0, most}, most, api.OK}, {[]uint64{most, 1}, 0, api.ErrOver}, {[]uint64{1, most}, 0, api.ErrOver}, {[]uint64{most, 1, 0}, 0, api.ErrOver}, {[]uint64{most / 2, most / 2}, most, api.OK}, {[]uint64{most / 2, most / 2, 1}, 0, api.ErrOver},
		{[]uint64{full, 1}, 0, api.ErrOver}, {[]uint64{1, full}, 0, api.ErrOver}, {[]uint64{most, full}, 0, api.ErrOver}, {[]uint64{most, 3 * most}, 0, api.ErrOver}, {[]uint64{5, full - 4}, 0, api.ErrOver}, {[]uint64{full, full}, 0, api.ErrOver}, {[]uint64{most, most, most, most}, 0, api.ErrOver}, {[]uint64{most, most, most, most, 1}, 0, api.ErrOver}, {[]uint64{1 << 63, 1 << 63}, 0, api.ErrOver}, {[]uint64{1, full, full, full, 2}, 0, api.ErrOver},
	} {
		if n, e := Total(loads(c.l...), s, 3); n != c.want || e != c.e {
			t.Errorf("the total of %v: %d, %v", c.l, n, e)
		}
		if n, e := Total(loads(c.l...), s, 1); n != uint64(len(c.l)) || e != api.OK {
			t.Errorf("the number of %v: %d, %v", c.l, n, e)
		}
	}
	if n, e := Total([]api.Record{}, s, 3); n != 0 || e != api.OK {
		t.Errorf("the total of no flow: %d, %v", n, e)
	}
}

// TestTotalSkips is of P13.2: what has no leaf weighs nothing, however much it is.
func TestTotalSkips(t *testing.T) {
	s := two(api.Dim{Kind: 1, Side: 1, Step: 8}, api.Dim{Kind: 3, Side: 2, Step: 2})
	leaf := api.Record{Addr: [2]api.Key{ten, six}, Path: [2]api.Key{missing, dc1}, Packets: 2, Bytes: 1 << 61}
	rest := leaf
	rest.Bytes = 1<<61 - 1
	without := []api.Record{
		{Addr: [2]api.Key{six, ten}, Path: [2]api.Key{missing, dc1}}, {Addr: [2]api.Key{ten, six}, Path: [2]api.Key{dc1, missing}}, {Addr: [2]api.Key{ten, six}}, {Path: [2]api.Key{dc1, dc1}}, {},
		{Addr: [2]api.Key{ten, key.Cut(six, 127)}, Path: [2]api.Key{missing, dc1}}, {Addr: [2]api.Key{ten, six}, Path: [2]api.Key{ten, dc1}},
	}
	var l []api.Record
	for _, f := range without {
		f.Packets, f.Bytes = full, full
		l = append(l, f)
	}
	if n, e := Total(l, s, 3); n != 0 || e != api.OK {
		t.Errorf("the total of flows without a leaf: %d, %v", n, e)
	}
	// A flow with a leaf is put in at each place.
	for i := range len(l) + 1 {
		for j := i; j <= len(l); j++ {
			m := slices.Concat(l[:i], []api.Record{leaf}, l[i:j], []api.Record{rest}, l[j:])
			if n, e := Total(m, s, 3); n != 1<<62-1 || e != api.OK {
				t.Errorf("the total of a leaf at %d and at %d: %d, %v", i, j+1, n, e)
			}
			if n, e := Total(m, s, 2); n != 4 || e != api.OK {
				t.Errorf("the packets of a leaf at %d and at %d: %d, %v", i, j+1, n, e)
			}
			m[j+1].Bytes++
			if n, e := Total(m, s, 3); n != 1<<62 || e != api.OK {
				t.Errorf("MaxTotal at %d and at %d: %d, %v", i, j+1, n, e)
			}
			m[j+1].Bytes++
			if n, e := Total(m, s, 3); n != 0 || e != api.ErrOver {
				t.Errorf("MaxTotal and 1 more at %d and at %d: %d, %v", i, j+1, n, e)
			}
		}
	}
}

// randomList returns flows of which some have no leaf, some are not valid, and some weigh much.
func randomList(r *rand.Rand, right, wrong []api.Record) []api.Record {
	var l []api.Record
	least := r.Intn(64) >> r.Intn(6)
	for range r.Intn(12) {
		f := right[r.Intn(len(right))]
		if r.Intn(6) == 0 {
			f = wrong[r.Intn(len(wrong))]
		}
		f.Packets, f.Bytes = r.Uint64()>>least, r.Uint64()>>(least+r.Intn(64-least))
		l = append(l, f)
	}
	return l
}

// TestTotal is of P13.2 and P1: lists, spaces and weights of all sorts, against sums in integers of the library.
func TestTotal(t *testing.T) {
	r := rand.New(rand.NewSource(132))
	right, wrong := rightFlows(), wrongFlows()
	spaces, others := rightSpaces(), wrongSpaces()
	for range 5000 {
		s := spaces[r.Intn(len(spaces))]
		if r.Intn(8) == 0 {
			s = others[r.Intn(len(others))]
		}
		checkTotal(t, randomList(r, right, wrong), s, r.Intn(7)-1)
	}
	for _, s := range others {
		checkTotal(t, right[:200], s, 3)
	}
	for _, by := range []int{0, 4, -1, math.MinInt, math.MaxInt} {
		checkTotal(t, right, spaces[0], by)
	}
	checkTotal(t, wrong, spaces[0], 1)
	checkTotal(t, right, spaces[0], 1)
}

// TestTotalOfParts is of P13.5: a list is cut in two at each place.
func TestTotalOfParts(t *testing.T) {
	r := rand.New(rand.NewSource(135))
	right, wrong := rightFlows(), wrongFlows()
	spaces := rightSpaces()
	over, within := 0, 0
	for range 2000 {
		l, s, by := randomList(r, right, wrong), spaces[r.Intn(len(spaces))], 1+r.Intn(3)
		n, e := Total(l, s, by)
		for i := range len(l) + 1 {
			a, first := Total(l[:i:i], s, by)
			b, second := Total(l[i:], s, by)
			// Each of both totals is at most 2^62, so their sum fits.
			fits := first == api.OK && second == api.OK && a+b <= 1<<62
			if fits != (e == api.OK) || fits && a+b != n {
				t.Fatalf("%d, %v and %d, %v are together %d, %v", a, first, b, second, n, e)
			}
		}
		if e == api.OK && n > 0 {
			within++
		} else if e == api.ErrOver {
			over++
		}
	}
	if within < 100 || over < 50 {
		t.Errorf("%d totals, and %d that are too great", within, over)
	}
}

// TestTotalCapacity is of P13.2: elements behind the end of a list do not count.
func TestTotalCapacity(t *testing.T) {
	s := one(api.Dim{Kind: 1, Side: 1, Step: 8})
	l := loads(5, 3, full)
	if n, e := Total(l[:2], s, 3); n != 8 || e != api.OK {
		t.Errorf("the total of 2 of 3: %d, %v", n, e)
	}
	if n, e := Total(l[:0], s, 3); n != 0 || e != api.OK {
		t.Errorf("the total of 0 of 3: %d, %v", n, e)
	}
}

// TestHandmade is of P1: whatever the arguments, each function returns, and what it returns agrees.
func TestHandmade(t *testing.T) {
	r := rand.New(rand.NewSource(131))
	edges := []int{math.MinInt, -1, 0, 1, 2, 3, 4, 8, 31, 32, 33, 127, 128, 129, math.MaxInt}
	texts := []string{"", "a", "a.b", ".", "A", eight.Path, eight.Path + ".i", "\x00", "\xff"}
	pick := func() int { return edges[r.Intn(len(edges))] }
	keyed := func() api.Key {
		switch r.Intn(3) {
		case 0:
			return addresses()[r.Intn(len(addresses()))]
		case 1:
			return paths()[r.Intn(len(paths()))]
		}
		return api.Key{Kind: pick(), Len: pick(), Hi: r.Uint64() << r.Intn(65), Lo: r.Uint64() << r.Intn(65), Path: texts[r.Intn(len(texts))]}
	}
	for range 50000 {
		f := api.Record{Addr: [2]api.Key{keyed(), keyed()}, Path: [2]api.Key{keyed(), keyed()}, Packets: r.Uint64(), Bytes: r.Uint64()}
		d, e := api.Dim{Kind: pick(), Side: pick(), Step: pick()}, api.Dim{Kind: 1 + r.Intn(3), Side: 1 + r.Intn(2), Step: 1}
		s := api.Space{N: pick(), D: [2]api.Dim{e, d}}
		if Right(f) != valid(f) || Turned(Turned(f)) != f {
			t.Fatalf("Right or Turned of %+v", f)
		}
		k, ok := Key(f, e)
		if want, is := keyOf(f, e); ok != (is && valid(f)) || ok && k != want || !ok && k != missing {
			t.Fatalf("Key(%+v, %+v): %+v, %v", f, e, k, ok)
		}
		if k, ok := Key(f, d); ok && (!valid(f) || k.Kind != d.Kind) || !ok && k != missing {
			t.Fatalf("Key(%+v, %+v): %+v, %v", f, d, k, ok)
		}
		if p, ok := Leaf(s, f); ok != prefix.Right(s, p) || !ok && p != (api.Prefix{}) {
			t.Fatalf("Leaf(%+v, %+v): %+v, %v", s, f, p, ok)
		}
		checkTotal(t, []api.Record{f, f}, one(e), pick())
	}
}
