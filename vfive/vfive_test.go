package vfive

import (
	"bytes"
	"encoding/hex"
	"math"
	"math/big"
	"math/rand"
	"reflect"
	"slices"
	"strings"
	"testing"

	"cribble/api"
	"cribble/flow"
	"cribble/key"
)

// place is where a field lies, counted from the beginning of the header or of its flow.
type place struct {
	name     string
	at, size int
}

// headPlaces returns the fields of a header behind the version and the number of flows, as the chapter orders them.
func headPlaces() []place {
	return []place{{"Uptime", 4, 4}, {"Secs", 8, 4}, {"Nanos", 12, 4}, {"Sequence", 16, 4}, {"Engine", 20, 1}, {"ID", 21, 1}, {"Sampling", 22, 2}}
}

// flowPlaces returns the fields of a flow, as the chapter orders them.
func flowPlaces() []place {
	return []place{
		{"Src", 0, 4}, {"Dst", 4, 4}, {"Next", 8, 4}, {"In", 12, 2}, {"Out", 14, 2}, {"Packets", 16, 4}, {"Bytes", 20, 4}, {"First", 24, 4}, {"Last", 28, 4}, {"SrcPort", 32, 2}, {"DstPort", 34, 2},
		{"Flags", 37, 1}, {"Proto", 38, 1}, {"Tos", 39, 1}, {"SrcAS", 40, 2}, {"DstAS", 42, 2}, {"SrcMask", 44, 1}, {"DstMask", 45, 1},
	}
}

// padding returns the bytes of a flow that are padding.
func padding() []int { return []int{36, 46, 47} }

// set gives a field of the header or flow at p a value.
func set(p any, name string, n uint64) { reflect.ValueOf(p).Elem().FieldByName(name).SetUint(n) }

// get returns the value of a field of the header or flow at p.
func get(p any, name string) uint64 { return reflect.ValueOf(p).Elem().FieldByName(name).Uint() }

// greatest returns the greatest integer of size bytes.
func greatest(size int) uint64 { return 1<<(8*size) - 1 }

// integer returns n in size bytes.
func integer(n uint64, size int) []byte {
	b := new(big.Int).SetUint64(n).Bytes()
	return append(make([]byte, size-len(b)), b...)
}

// message returns the bytes of a message as the chapter describes them, with any version and any number of flows announced.
func message(version, count int, h api.FiveHead, l []api.FiveFlow) []byte {
	b := make([]byte, 24+48*len(l))
	copy(b, integer(uint64(version), 2))
	copy(b[2:], integer(uint64(count), 2))
	for _, p := range headPlaces() {
		copy(b[p.at:], integer(get(&h, p.name), p.size))
	}
	for i, f := range l {
		for _, p := range flowPlaces() {
			copy(b[24+48*i+p.at:], integer(get(&f, p.name), p.size))
		}
	}
	return b
}

// randomHead returns a header with any values.
func randomHead(r *rand.Rand) api.FiveHead {
	var h api.FiveHead
	for _, p := range headPlaces() {
		set(&h, p.name, r.Uint64()&greatest(p.size))
	}
	return h
}

// randomFlows returns n flows with any values.
func randomFlows(r *rand.Rand, n int) []api.FiveFlow {
	l := make([]api.FiveFlow, n)
	for i := range l {
		for _, p := range flowPlaces() {
			set(&l[i], p.name, r.Uint64()&greatest(p.size))
		}
	}
	return l
}

// A message of two flows, byte by byte, and what it says.
var (
	hand = strings.Join([]string{
		"0005" + "0002" + "00010203" + "04050607" + "08090a0b" + "0c0d0e0f" + "10" + "11" + "1213",
		"0a000001" + "c0a80001" + "0a0000fe" + "0001" + "0002" + "00000003" + "000001f4" + "00000010" + "00000020" + "1f90" + "0050" + "00" + "1b" + "06" + "08" + "fde8" + "fde9" + "18" + "10" + "0000",
		"ffffffff" + "fffffffe" + "fffffffd" + "fffc" + "fffb" + "fffffffa" + "fffffff9" + "fffffff8" + "fffffff7" + "fff6" + "fff5" + "00" + "f4" + "f3" + "f2" + "fff1" + "fff0" + "ef" + "ee" + "0000",
	}, "")
	handHead  = api.FiveHead{Uptime: 0x10203, Secs: 0x4050607, Nanos: 0x8090a0b, Sequence: 0xc0d0e0f, Engine: 0x10, ID: 0x11, Sampling: 0x1213}
	handFlows = []api.FiveFlow{
		{Src: 0xa000001, Dst: 0xc0a80001, Next: 0xa0000fe, In: 1, Out: 2, Packets: 3, Bytes: 500, First: 16, Last: 32, SrcPort: 8080, DstPort: 80, Flags: 0x1b, Proto: 6, Tos: 8, SrcAS: 65000, DstAS: 65001, SrcMask: 24, DstMask: 16},
		{Src: 0xffffffff, Dst: 0xfffffffe, Next: 0xfffffffd, In: 0xfffc, Out: 0xfffb, Packets: 0xfffffffa, Bytes: 0xfffffff9, First: 0xfffffff8, Last: 0xfffffff7, SrcPort: 0xfff6, DstPort: 0xfff5, Flags: 0xf4, Proto: 0xf3, Tos: 0xf2, SrcAS: 0xfff1, DstAS: 0xfff0, SrcMask: 0xef, DstMask: 0xee},
	}
)

// handMade returns the bytes of the message of two flows.
func handMade() []byte {
	b, _ := hex.DecodeString(hand)
	return b
}

// reads tells if Read or Records of b is not h and l.
func reads(t *testing.T, b []byte, h api.FiveHead, l []api.FiveFlow) {
	t.Helper()
	before := bytes.Clone(b)
	gotHead, got, e := Read(b)
	if e != api.OK || gotHead != h || !slices.Equal(got, l) {
		t.Errorf("Read(%x): %+v, %+v, %v", b, gotHead, got, e)
	}
	records, e := Records(b)
	if e != api.OK || len(records) != len(l) {
		t.Errorf("Records(%x): %+v, %v", b, records, e)
	}
	for i, f := range records {
		if f != recordOf(l[i]) {
			t.Errorf("Records(%x): %+v at %d", b, f, i)
		}
	}
	if !bytes.Equal(b, before) {
		t.Errorf("%x has become %x", before, b)
	}
}

// fails tells if Read or Records of b is not the error e, with nothing beside it.
func fails(t *testing.T, what string, b []byte, e api.Errno) {
	t.Helper()
	if h, l, got := Read(b); got != e || h != (api.FiveHead{}) || len(l) != 0 {
		t.Errorf("%s, of %d bytes: Read gives %+v, %d flows, %v; not %v", what, len(b), h, len(l), got, e)
	}
	if l, got := Records(b); got != e || len(l) != 0 {
		t.Errorf("%s, of %d bytes: Records gives %d flows, %v; not %v", what, len(b), len(l), got, e)
	}
}

// recordOf is what the chapter says of Record.
func recordOf(f api.FiveFlow) api.Record {
	address := func(a uint32) api.Key { return api.Key{Kind: 1, Len: 32, Hi: uint64(a) * (1 << 32)} }
	return api.Record{Addr: [2]api.Key{address(f.Src), address(f.Dst)}, Packets: uint64(f.Packets), Bytes: uint64(f.Bytes)}
}

// TestPlaces looks whether the tests know all fields, and whether these and the padding are all bytes.
func TestPlaces(t *testing.T) {
	if n := reflect.TypeFor[api.FiveHead]().NumField(); n != len(headPlaces()) {
		t.Errorf("%d fields of a header", n)
	}
	if n := reflect.TypeFor[api.FiveFlow]().NumField(); n != len(flowPlaces()) {
		t.Errorf("%d fields of a flow", n)
	}
	used := make([]int, 24+48)
	for _, p := range headPlaces() {
		for i := range p.size {
			used[p.at+i]++
		}
	}
	for _, p := range flowPlaces() {
		for i := range p.size {
			used[24+p.at+i]++
		}
	}
	for _, at := range padding() {
		used[24+at]++
	}
	for i, n := range used[4:] {
		if n != 1 {
			t.Errorf("byte %d is used %d times", 4+i, n)
		}
	}
}

// TestRead is of P14.1 and P14.2: a message written by hand, and ones of 1 to 30 flows.
func TestRead(t *testing.T) {
	reads(t, handMade(), handHead, handFlows)
	r := rand.New(rand.NewSource(14))
	for n := 1; n <= api.MaxFlows; n++ {
		for range 5 {
			h, l := randomHead(r), randomFlows(r, n)
			reads(t, message(5, n, h, l), h, l)
		}
	}
	zero := make([]byte, 72)
	zero[1], zero[3] = 5, 1
	reads(t, zero, api.FiveHead{}, []api.FiveFlow{{}})
}

// TestReadLengths is of P14.1: every number of bytes up to those of two flows, with one announced.
func TestReadLengths(t *testing.T) {
	h, l := handHead, handFlows[:1]
	b := append(message(5, 1, h, l), make([]byte, 50)...)
	for n := range b {
		switch {
		case n < 72:
			fails(t, "one flow", b[:n], api.ErrShort)
		case n == 72:
			reads(t, b[:n], h, l)
		default:
			fails(t, "one flow", b[:n], api.ErrLong)
		}
	}
	fails(t, "nothing", nil, api.ErrShort)
	fails(t, "nothing", []byte{}, api.ErrShort)
	for _, n := range []int{23, 24, 25, 71, 72, 73} {
		fails(t, "zeros", make([]byte, n), map[bool]api.Errno{true: api.ErrShort, false: api.ErrVersion}[n < 24])
	}
}

// TestReadVersion is of P14.1: every version but 5.
func TestReadVersion(t *testing.T) {
	for version := range 1 << 16 {
		b := message(version, 2, handHead, handFlows)
		if version == 5 {
			reads(t, b, handHead, handFlows)
			continue
		}
		fails(t, "another version", b, api.ErrVersion)
	}
}

// TestReadAnnounced is of P14.1: numbers of flows within and beyond the limit, with as many, fewer and more bytes.
func TestReadAnnounced(t *testing.T) {
	r := rand.New(rand.NewSource(142))
	h, many := randomHead(r), randomFlows(r, 33)
	for _, n := range []int{1, 2, 3, 15, 29, 30} {
		b := message(5, n, h, many)
		end := 24 + 48*n
		reads(t, b[:end], h, many[:n])
		for _, size := range []int{24, 25, 71, end - 48, end - 1} {
			if size < end {
				fails(t, "bytes missing", b[:size], api.ErrShort)
			}
		}
		for _, size := range []int{end + 1, end + 2, end + 47, end + 48, len(b)} {
			fails(t, "bytes left", b[:size], api.ErrLong)
		}
	}
	for _, n := range []int{0, 31, 32, 33, 255, 256, 257, 256 + 30, 1 << 15, 1<<15 + 1, 1<<16 - 30, 1<<16 - 1} {
		b := message(5, n, h, many)
		for _, size := range []int{24, 25, 71, 72, 73, 24 + 48*30, 24 + 48*31 - 1, 24 + 48*31, 24 + 48*31 + 1, len(b)} {
			fails(t, "a wrong number", b[:size], api.ErrForm)
		}
	}
	most := make([]byte, 24+48*65535+1)
	copy(most, message(5, 65535, h, nil))
	fails(t, "65535 flows", most[:len(most)-1], api.ErrForm)
	fails(t, "65535 flows and a byte", most, api.ErrForm)
}

// TestReadOrder is of P14.1: of several faults, the one that is named first is returned.
func TestReadOrder(t *testing.T) {
	for _, c := range []struct {
		version, count, size int
		want                 api.Errno
	}{
		{9, 0, 23, api.ErrShort}, {9, 1, 23, api.ErrShort}, {5, 0, 23, api.ErrShort}, {5, 31, 23, api.ErrShort}, {9, 65535, 4, api.ErrShort}, {5, 0, 4, api.ErrShort}, {9, 0, 2, api.ErrShort}, {9, 0, 0, api.ErrShort},
		{9, 0, 24, api.ErrVersion}, {9, 31, 24, api.ErrVersion}, {9, 1, 24, api.ErrVersion}, {9, 1, 71, api.ErrVersion}, {9, 1, 72, api.ErrVersion}, {9, 1, 73, api.ErrVersion}, {9, 0, 72, api.ErrVersion}, {9, 31, 73, api.ErrVersion}, {0, 0, 24, api.ErrVersion}, {0x500, 65535, 25, api.ErrVersion},
		{5, 0, 24, api.ErrForm}, {5, 0, 25, api.ErrForm}, {5, 0, 72, api.ErrForm}, {5, 31, 24, api.ErrForm}, {5, 31, 24 + 48*30, api.ErrForm}, {5, 31, 24 + 48*32, api.ErrForm}, {5, 65535, 73, api.ErrForm},
		{5, 1, 24, api.ErrShort}, {5, 30, 24 + 48*29, api.ErrShort}, {5, 1, 73, api.ErrLong}, {5, 30, 24 + 48*31, api.ErrLong},
	} {
		b := message(c.version, c.count, handHead, make([]api.FiveFlow, 33))
		fails(t, "faults", b[:c.size], c.want)
	}
}

// TestEachField is of P14.1: the smallest and the greatest value of each field, alone and against all others.
func TestEachField(t *testing.T) {
	var lowHead, highHead api.FiveHead
	var low, high api.FiveFlow
	for _, p := range headPlaces() {
		set(&highHead, p.name, greatest(p.size))
	}
	for _, p := range flowPlaces() {
		set(&high, p.name, greatest(p.size))
	}
	check := func(name string, h api.FiveHead, f api.FiveFlow) {
		t.Helper()
		l := []api.FiveFlow{low, f, high}
		want := message(5, 3, h, l)
		if b, e := Write(h, l); e != api.OK || !bytes.Equal(b, want) {
			t.Errorf("%s: Write gives %x, %v; not %x", name, b, e, want)
		}
		reads(t, want, h, l)
	}
	check("all smallest", lowHead, low)
	check("all greatest", highHead, high)
	for _, p := range headPlaces() {
		for _, n := range []uint64{1, greatest(p.size)} {
			h := lowHead
			set(&h, p.name, n)
			check(p.name, h, low)
		}
		h := highHead
		set(&h, p.name, 0)
		check(p.name, h, high)
	}
	for _, p := range flowPlaces() {
		for _, n := range []uint64{1, greatest(p.size)} {
			f := low
			set(&f, p.name, n)
			check(p.name, lowHead, f)
		}
		f := high
		set(&f, p.name, 0)
		check(p.name, highHead, f)
	}
}

// TestPadding is of P14.1 and P14.4: padding is ignored, and written as 0; every other byte of a flow counts.
func TestPadding(t *testing.T) {
	clean := handMade()
	padded := bytes.Clone(clean)
	for i := range handFlows {
		for at := range 48 {
			b := bytes.Clone(clean)
			b[24+48*i+at] ^= 0xff
			if slices.Contains(padding(), at) {
				reads(t, b, handHead, handFlows)
				padded[24+48*i+at] = 0xff
				continue
			}
			h, l, e := Read(b)
			if e != api.OK || h != handHead || l[i] == handFlows[i] || l[1-i] != handFlows[1-i] {
				t.Errorf("byte %d of flow %d: %+v, %+v, %v", at, i, h, l, e)
			}
		}
	}
	reads(t, padded, handHead, handFlows)
	h, l, _ := Read(padded)
	if b, e := Write(h, l); e != api.OK || !bytes.Equal(b, clean) {
		t.Errorf("padding is written: %x, %v", b, e)
	}
}

// TestWrite is of P14.1: a message written by hand, and ones of 1 to 30 flows.
func TestWrite(t *testing.T) {
	if b, e := Write(handHead, handFlows); e != api.OK || !bytes.Equal(b, handMade()) {
		t.Errorf("Write: %x, %v", b, e)
	}
	r := rand.New(rand.NewSource(141))
	for n := 1; n <= api.MaxFlows; n++ {
		h, l := randomHead(r), randomFlows(r, n)
		before := slices.Clone(l)
		b, e := Write(h, l)
		if e != api.OK || len(b) != 24+48*n || !bytes.Equal(b, message(5, n, h, l)) {
			t.Errorf("Write of %d flows: %x, %v", n, b, e)
		}
		if !slices.Equal(l, before) {
			t.Errorf("Write has changed %+v", before)
		}
	}
}

// TestWriteNumber is of P14.1: no flow, and more than 30.
func TestWriteNumber(t *testing.T) {
	many := make([]api.FiveFlow, 65537)
	for _, c := range []struct {
		l []api.FiveFlow
		e api.Errno
	}{
		{nil, api.ErrArg}, {[]api.FiveFlow{}, api.ErrArg}, {many[:0], api.ErrArg}, {many[:31], api.ErrLong}, {many[:32], api.ErrLong}, {many[:256], api.ErrLong}, {many[:257], api.ErrLong}, {many[:65535], api.ErrLong}, {many[:65536], api.ErrLong}, {many, api.ErrLong},
	} {
		if b, e := Write(handHead, c.l); e != c.e || len(b) != 0 {
			t.Errorf("Write of %d flows: %x, %v", len(c.l), b, e)
		}
	}
	if b, e := Write(handHead, many[:30]); e != api.OK || len(b) != 24+48*30 || b[3] != 30 {
		t.Errorf("Write of 30 flows: %x, %v", b, e)
	}
}

// TestRoundTrip is of P14.4: what is written is read back, and cut anywhere or with one more byte it is not read.
func TestRoundTrip(t *testing.T) {
	r := rand.New(rand.NewSource(144))
	for n := 1; n <= api.MaxFlows; n++ {
		h, l := randomHead(r), randomFlows(r, n)
		b, e := Write(h, l)
		if e != api.OK {
			t.Fatalf("Write of %d flows: %v", n, e)
		}
		reads(t, b, h, l)
		for i := range b {
			if _, _, e := Read(b[:i]); e != api.ErrShort {
				t.Errorf("%d bytes of %d: %v", i, len(b), e)
			}
		}
		fails(t, "cut", b[:len(b)-1], api.ErrShort)
		for _, more := range []byte{0, 5, 255} {
			fails(t, "one more byte", append(bytes.Clone(b), more), api.ErrLong)
		}
		fails(t, "twice", append(bytes.Clone(b), b...), api.ErrLong)
	}
}

// TestWrittenAgain is of P14.4: what is read from any bytes and written again has the same bytes, except for padding.
func TestWrittenAgain(t *testing.T) {
	r := rand.New(rand.NewSource(145))
	for range 3000 {
		n := 1 + r.Intn(api.MaxFlows)
		b := make([]byte, 24+48*n)
		r.Read(b)
		copy(b, []byte{0, 5, 0, byte(n)})
		h, l, e := Read(b)
		if e != api.OK || len(l) != n {
			t.Fatalf("Read(%x): %d flows, %v", b, len(l), e)
		}
		for i := range n {
			for _, at := range padding() {
				b[24+48*i+at] = 0
			}
		}
		again, e := Write(h, l)
		if e != api.OK || !bytes.Equal(again, b) {
			t.Fatalf("%x is written again as %x, %v", b, again, e)
		}
	}
}

// TestRecord is of P14.2: from Src to Dst, both of kind 1, without paths.
func TestRecord(t *testing.T) {
	want := api.Record{Addr: [2]api.Key{key.Four(0x0a000001), key.Four(0xc0a80001)}, Packets: 3, Bytes: 500}
	if got := Record(handFlows[0]); got != want {
		t.Errorf("Record: %+v", got)
	}
	r := rand.New(rand.NewSource(146))
	for _, f := range append(randomFlows(r, 500), api.FiveFlow{}, handFlows[1]) {
		got := Record(f)
		if got != recordOf(f) || !flow.Right(got) {
			t.Errorf("Record(%+v): %+v", f, got)
		}
		// Nothing else of a flow is in its record.
		g := api.FiveFlow{Src: f.Src, Dst: f.Dst, Packets: f.Packets, Bytes: f.Bytes}
		if Record(g) != got {
			t.Errorf("Record(%+v): %+v", g, Record(g))
		}
	}
	edge := Record(api.FiveFlow{Src: math.MaxUint32, Packets: math.MaxUint32, Bytes: math.MaxUint32})
	if edge.Addr != [2]api.Key{key.Four(math.MaxUint32), key.Four(0)} || edge.Packets != 1<<32-1 || edge.Bytes != 1<<32-1 || edge.Path != [2]api.Key{} {
		t.Errorf("Record at its edges: %+v", edge)
	}
}

// TestRecords is of P14.2: the record of each flow, in order.
func TestRecords(t *testing.T) {
	l, e := Records(handMade())
	want := []api.Record{
		{Addr: [2]api.Key{key.Four(0x0a000001), key.Four(0xc0a80001)}, Packets: 3, Bytes: 500},
		{Addr: [2]api.Key{key.Four(0xffffffff), key.Four(0xfffffffe)}, Packets: 0xfffffffa, Bytes: 0xfffffff9},
	}
	if e != api.OK || !slices.Equal(l, want) {
		t.Errorf("Records: %+v, %v", l, e)
	}
}

// numbers returns numbers of flows of all sorts.
func numbers() []int {
	return []int{math.MinInt, math.MinInt + 1, -(1 << 33), -(1 << 32) - 1, -(1 << 32), -(1 << 32) + 1, -(1 << 31), -65536, -31, -3, -1, 0, 1, 2, 3, 29, 30, 31, 65535, 1<<31 - 1, 1 << 31, 1<<32 - 1, 1 << 32, 1<<32 + 1, 1 << 33, 1 << 62, math.MaxInt - 1, math.MaxInt}
}

// sequences returns sequences: around both ends and the middle, and some others.
func sequences() []uint32 {
	return []uint32{0, 1, 2, 3, 10, 13, 15, 30, 1<<31 - 1, 1 << 31, 1<<31 + 1, 1<<32 - 31, 1<<32 - 30, 1<<32 - 3, 1<<32 - 2, 1<<32 - 1, 0x12345678}
}

// modulo returns n modulo 2^32, which is never negative.
func modulo(n *big.Int) uint64 { return new(big.Int).Mod(n, big.NewInt(1<<32)).Uint64() }

// head returns a header with a sequence, and other values that are not to matter.
func head(r *rand.Rand, sequence uint32) api.FiveHead {
	h := randomHead(r)
	h.Sequence = sequence
	return h
}

// TestGap is of P14.3 and P14.5: by how much the one is ahead of what was expected, modulo 2^32; 0 exactly for that.
func TestGap(t *testing.T) {
	r := rand.New(rand.NewSource(143))
	for _, a := range sequences() {
		for _, n := range numbers() {
			expected := new(big.Int).Add(big.NewInt(int64(a)), big.NewInt(int64(n)))
			for _, b := range append(sequences(), uint32(modulo(expected))) {
				want := modulo(new(big.Int).Sub(big.NewInt(int64(b)), expected))
				got := Gap(head(r, a), n, head(r, b))
				if uint64(got) != want {
					t.Errorf("Gap(%d, %d, %d): %d, not %d", a, n, b, got, want)
				}
				if (got == 0) != (uint64(b) == modulo(expected)) {
					t.Errorf("Gap(%d, %d, %d): %d", a, n, b, got)
				}
			}
		}
	}
}

// TestGapEdges is of P14.3: the gap of the chapter, sequences that wrap around, and negative numbers of flows.
func TestGapEdges(t *testing.T) {
	for _, c := range []struct {
		a    uint32
		n    int
		b    uint32
		want uint32
	}{
		{10, 3, 15, 2}, {10, 3, 13, 0}, {10, 3, 12, 1<<32 - 1}, {10, 3, 10, 1<<32 - 3}, {10, 0, 10, 0}, {10, 0, 9, 1<<32 - 1}, {0, 0, 1<<32 - 1, 1<<32 - 1},
		{1<<32 - 1, 1, 0, 0}, {1<<32 - 1, 30, 29, 0}, {1<<32 - 1, 30, 31, 2}, {1<<32 - 10, 30, 20, 0}, {1<<32 - 10, 30, 1<<32 - 1, 1<<32 - 21}, {1<<32 - 5, 3, 1, 3},
		{10, -3, 7, 0}, {10, -3, 10, 3}, {0, -1, 1<<32 - 1, 0}, {0, -1, 0, 1}, {2, -3, 0, 1}, {10, math.MinInt, 10, 0}, {10, math.MaxInt, 9, 0}, {10, 1 << 32, 10, 0}, {10, 1<<32 + 3, 15, 2}, {10, -(1 << 32), 12, 2},
	} {
		if got := Gap(api.FiveHead{Sequence: c.a}, c.n, api.FiveHead{Sequence: c.b}); got != c.want {
			t.Errorf("Gap(%d, %d, %d): %d, not %d", c.a, c.n, c.b, got, c.want)
		}
	}
}

// TestGapsAdd is of P14.5: the gap from a first message to a third one is that to the second one and that from there.
func TestGapsAdd(t *testing.T) {
	r := rand.New(rand.NewSource(147))
	for range 20000 {
		a, b, c := head(r, r.Uint32()), head(r, r.Uint32()), head(r, r.Uint32())
		n, m := r.Intn(1<<40)-1<<39, r.Intn(61)-30
		if Gap(a, n, b)+Gap(b, m, c) != Gap(a, n+m, c) {
			t.Fatalf("%d and %d flows between %d, %d and %d", n, m, a.Sequence, b.Sequence, c.Sequence)
		}
	}
}

// TestCapacity is of P14.1: bytes and flows behind the end are neither read nor written.
func TestCapacity(t *testing.T) {
	b := append(handMade(), 1, 2, 3)
	end := len(b) - 3
	reads(t, b[:end], handHead, handFlows)
	fails(t, "cut in its memory", b[:end-1], api.ErrShort)
	fails(t, "cut in its memory", b[:23], api.ErrShort)
	if !bytes.Equal(b[end:], []byte{1, 2, 3}) {
		t.Errorf("the memory behind a message: %x", b[end:])
	}
	one, e := Write(handHead, handFlows[:1])
	if e != api.OK || !bytes.Equal(one[24:], handMade()[24:72]) || one[3] != 1 {
		t.Errorf("Write of 1 of 2 flows: %x, %v", one, e)
	}
}

// TestNewMemory looks whether results share memory with arguments or with each other.
func TestNewMemory(t *testing.T) {
	b := handMade()
	_, l, _ := Read(b)
	_, m, _ := Read(b)
	records, _ := Records(b)
	clear(b)
	clear(m)
	if !slices.Equal(l, handFlows) || records[1] != recordOf(handFlows[1]) {
		t.Errorf("flows that were read have changed: %+v, %+v", l, records)
	}
	first, _ := Write(handHead, l)
	second, _ := Write(handHead, l)
	clear(first)
	clear(l)
	if !bytes.Equal(second, handMade()) {
		t.Errorf("a message that was written has changed: %x", second)
	}
}

// TestAnyBytes is of P1: whatever the bytes, each function returns, and it returns an error or what they say.
func TestAnyBytes(t *testing.T) {
	r := rand.New(rand.NewSource(148))
	for range 20000 {
		b := make([]byte, r.Intn(200))
		r.Read(b)
		if len(b) >= 4 && r.Intn(4) > 0 {
			copy(b, []byte{0, 5, 0, byte(r.Intn(4))})
		}
		version, count := 0, 0
		if len(b) >= 24 {
			version, count = int(b[0])<<8|int(b[1]), int(b[2])<<8|int(b[3])
		}
		want := api.OK
		switch end := 24 + 48*count; {
		case len(b) < 24:
			want = api.ErrShort
		case version != 5:
			want = api.ErrVersion
		case count < 1 || count > 30:
			want = api.ErrForm
		case len(b) < end:
			want = api.ErrShort
		case len(b) > end:
			want = api.ErrLong
		}
		if want != api.OK {
			fails(t, "any bytes", b, want)
		} else if _, l, e := Read(b); e != api.OK || len(l) != count {
			t.Errorf("Read(%x): %d flows, %v", b, len(l), e)
		}
	}
}
