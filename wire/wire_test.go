package wire_test

import (
	"bytes"
	"math"
	"slices"
	"strings"
	"testing"

	"jobber/api"
	"jobber/wire"
)

// ramp is a text in which no two neighbours are alike, so that a lost or
// moved byte shows.
func ramp(n int) string {
	b := make([]byte, n)
	for i := range b {
		b[i] = byte(i*7 + 3)
	}
	return string(b)
}

func sumFrom(first byte) api.Sum {
	var s api.Sum
	for i := range s {
		s[i] = first + byte(i)
	}
	return s
}

// P1.1: U8.

func TestU8PutsTheLowestByte(t *testing.T) {
	for _, c := range []struct {
		n    int
		want byte
	}{
		{0, 0}, {1, 1}, {127, 127}, {128, 128}, {255, 255},
		{256, 0}, {257, 1}, {258, 2}, {0x1234, 0x34},
		{-1, 255}, {-2, 254}, {-128, 128}, {-255, 1}, {-256, 0}, {-257, 255},
		{math.MaxInt, 255}, {math.MinInt, 0}, {math.MinInt + 5, 5},
	} {
		if got := wire.U8(nil, c.n); !bytes.Equal(got, []byte{c.want}) {
			t.Errorf("U8(nil, %d) = % x, want %02x", c.n, got, c.want)
		}
	}
}

// P1.1: U32, U64.

func TestU32PutsFourBytesMostSignificantFirst(t *testing.T) {
	for _, c := range []struct {
		n    uint32
		want []byte
	}{
		{0, []byte{0, 0, 0, 0}},
		{1, []byte{0, 0, 0, 1}},
		{258, []byte{0, 0, 1, 2}},
		{1 << 16, []byte{0, 1, 0, 0}},
		{1 << 31, []byte{0x80, 0, 0, 0}},
		{0x01020304, []byte{1, 2, 3, 4}},
		{0xfedcba98, []byte{0xfe, 0xdc, 0xba, 0x98}},
		{math.MaxUint32, []byte{255, 255, 255, 255}},
	} {
		if got := wire.U32(nil, c.n); !bytes.Equal(got, c.want) {
			t.Errorf("U32(nil, %#x) = % x, want % x", c.n, got, c.want)
		}
	}
}

func TestU64PutsEightBytesMostSignificantFirst(t *testing.T) {
	for _, c := range []struct {
		n    uint64
		want []byte
	}{
		{0, []byte{0, 0, 0, 0, 0, 0, 0, 0}},
		{1, []byte{0, 0, 0, 0, 0, 0, 0, 1}},
		{258, []byte{0, 0, 0, 0, 0, 0, 1, 2}},
		{1 << 32, []byte{0, 0, 0, 1, 0, 0, 0, 0}},
		{1 << 63, []byte{0x80, 0, 0, 0, 0, 0, 0, 0}},
		{0x0102030405060708, []byte{1, 2, 3, 4, 5, 6, 7, 8}},
		{0xfedcba9876543210, []byte{0xfe, 0xdc, 0xba, 0x98, 0x76, 0x54, 0x32, 0x10}},
		{math.MaxUint64, []byte{255, 255, 255, 255, 255, 255, 255, 255}},
	} {
		if got := wire.U64(nil, c.n); !bytes.Equal(got, c.want) {
			t.Errorf("U64(nil, %#x) = % x, want % x", c.n, got, c.want)
		}
	}
}

// P1.1: Text.

func TestTextPutsItsLengthAndItsFirst255Bytes(t *testing.T) {
	for _, c := range []struct {
		s    string
		used int
	}{
		{"", 0}, {"a", 1}, {"ab", 2}, {"\x00", 1}, {"\x00\xff\x80", 3}, {"é", 2},
		{ramp(254), 254}, {ramp(255), 255}, {ramp(256), 255}, {ramp(257), 255},
		{ramp(511), 255}, {ramp(512), 255}, {ramp(70000), 255},
	} {
		want := append([]byte{byte(c.used)}, c.s[:c.used]...)
		if got := wire.Text(nil, c.s); !bytes.Equal(got, want) {
			t.Errorf("Text of %d bytes = % x, want % x", len(c.s), got, want)
		}
	}
}

// A text is cut by bytes, even within a rune.
func TestTextIsCutWithinARune(t *testing.T) {
	s := strings.Repeat("x", 254) + "é"
	got := wire.Text(nil, s)
	if len(got) != 256 || got[0] != 255 || got[255] != "é"[0] {
		t.Errorf("Text = % x", got)
	}
}

// P1.1: the bytes of b come first, and all results are new memory.

type put struct {
	name string
	to   func(b []byte) []byte
	tail []byte
}

func puts() []put {
	return []put{
		{"U8", func(b []byte) []byte { return wire.U8(b, 0x1f1) }, []byte{0xf1}},
		{"U32", func(b []byte) []byte { return wire.U32(b, 0xf1f2f3f4) }, []byte{0xf1, 0xf2, 0xf3, 0xf4}},
		{"U64", func(b []byte) []byte { return wire.U64(b, 0xf1f2f3f4f5f6f7f8) }, []byte{0xf1, 0xf2, 0xf3, 0xf4, 0xf5, 0xf6, 0xf7, 0xf8}},
		{"Text", func(b []byte) []byte { return wire.Text(b, "xyz") }, []byte{3, 'x', 'y', 'z'}},
		{"Text of nothing", func(b []byte) []byte { return wire.Text(b, "") }, []byte{0}},
		{"Text of 255", func(b []byte) []byte { return wire.Text(b, ramp(255)) }, append([]byte{255}, ramp(255)...)},
		{"Text of 256", func(b []byte) []byte { return wire.Text(b, ramp(256)) }, append([]byte{255}, ramp(255)...)},
	}
}

func TestPutsKeepTheBytesAhead(t *testing.T) {
	for _, p := range puts() {
		for _, b := range [][]byte{nil, {}, {9}, {0, 0}, {1, 2, 3, 4, 5}, []byte(ramp(1000))} {
			want := slices.Concat(b, p.tail)
			if got := p.to(b); !bytes.Equal(got, want) {
				t.Errorf("%s behind %d bytes = % x, want % x", p.name, len(b), got, want)
			}
		}
	}
}

func TestPutsAnswerNewMemory(t *testing.T) {
	for _, p := range puts() {
		back := bytes.Repeat([]byte{0xaa}, 600)
		b := back[:3]
		first := p.to(b)
		second := p.to(b)
		// All that a caller can reach from the first answer, with its spare capacity.
		for i, whole := 0, first[:cap(first)]; i < len(whole); i++ {
			whole[i] = 0x55
		}
		if !bytes.Equal(back, bytes.Repeat([]byte{0xaa}, 600)) {
			t.Errorf("%s: the argument, or what lies behind it, was written", p.name)
		}
		if !bytes.Equal(second, slices.Concat([]byte{0xaa, 0xaa, 0xaa}, p.tail)) {
			t.Errorf("%s: two answers share memory", p.name)
		}
	}
}

func TestPutsDoNotKeepTheArgument(t *testing.T) {
	for _, p := range puts() {
		b := []byte{1, 2, 3}
		got := p.to(b)
		clear(b)
		if !bytes.Equal(got, slices.Concat([]byte{1, 2, 3}, p.tail)) {
			t.Errorf("%s: the answer changed with its argument", p.name)
		}
	}
}

// P1.2.

func TestReadStartsAtZeroAndNotBad(t *testing.T) {
	for _, b := range [][]byte{nil, {}, {0}, {255}, {1, 2, 3}} {
		if r := wire.Read(b); r == nil || r.At() != 0 || r.Bad() {
			t.Errorf("Read(% x) does not start at 0, or is bad", b)
		}
	}
}

func TestReadKeepsACopy(t *testing.T) {
	back := []byte{1, 'a', 2, 0, 0, 0, 3, 99}
	r := wire.Read(back[:7])
	for i := range back {
		back[i] = 0xee
	}
	if s := r.Text(1); s != "a" {
		t.Errorf("Text = %q", s)
	}
	if n := r.U8(); n != 2 {
		t.Errorf("U8 = %d", n)
	}
	if n := r.U32(); n != 3 {
		t.Errorf("U32 = %d", n)
	}
	if !r.End() {
		t.Error("what lies behind the slice was read")
	}
	if !bytes.Equal(back, bytes.Repeat([]byte{0xee}, 8)) {
		t.Error("the argument was written")
	}
}

func TestReadDoesNotReachTheSpareCapacity(t *testing.T) {
	back := []byte(ramp(100))
	if r := wire.Read(back[:3]); r.U32() != 0 || !r.Bad() || r.At() != 0 {
		t.Error("U32 of three bytes")
	}
	if r := wire.Read(back[:0]); r.U8() != 0 || !r.Bad() || r.At() != 0 {
		t.Error("U8 of no bytes")
	}
}

func TestReadersDoNotDisturbEachOther(t *testing.T) {
	b := []byte{1, 2}
	x, y := wire.Read(b), wire.Read(b)
	x.U8()
	x.U32()
	if y.At() != 0 || y.Bad() || y.U8() != 1 || y.U8() != 2 || !y.End() {
		t.Error("one reader moved another")
	}
}

// get is one way to decode: it tells whether the answer was a zero value.
type get struct {
	name string
	size int
	zero func(r *wire.Reader) bool
}

func gets() []get {
	return []get{
		{"U8", 1, func(r *wire.Reader) bool { return r.U8() == 0 }},
		{"U32", 4, func(r *wire.Reader) bool { return r.U32() == 0 }},
		{"U64", 8, func(r *wire.Reader) bool { return r.U64() == 0 }},
		{"Sum", api.Key, func(r *wire.Reader) bool { return r.Sum() == api.Sum{} }},
	}
}

func TestBadReaderStaysBadAndAnswersZero(t *testing.T) {
	spoils := []func(r *wire.Reader){
		func(r *wire.Reader) { r.U64() },
		func(r *wire.Reader) { r.Sum() },
		func(r *wire.Reader) { r.Text(0) },
		func(r *wire.Reader) { r.Text(255) },
	}
	for i, spoil := range spoils {
		// What stands at position 2 would still do for a U8 and a U32.
		r := wire.Read([]byte{7, 7, 6, 1, 1, 1, 1})
		r.U8()
		r.U8()
		spoil(r)
		if !r.Bad() || r.At() != 2 {
			t.Fatalf("spoil %d: bad %v at %d", i, r.Bad(), r.At())
		}
		for range 2 {
			for _, g := range gets() {
				if !g.zero(r) {
					t.Errorf("spoil %d: %s of a bad reader is not zero", i, g.name)
				}
			}
			for _, most := range []int{-1, 0, 4, 255, math.MaxInt, math.MinInt} {
				if r.Text(most) != "" {
					t.Errorf("spoil %d: Text(%d) of a bad reader is not empty", i, most)
				}
			}
			if !r.Bad() || r.At() != 2 || r.End() {
				t.Errorf("spoil %d: bad %v at %d, end %v", i, r.Bad(), r.At(), r.End())
			}
		}
	}
}

// P1.3: numbers and sums.

func TestU8Reads(t *testing.T) {
	all := make([]byte, 256)
	for i := range all {
		all[i] = byte(i)
	}
	r := wire.Read(all)
	for i := range all {
		if n := r.U8(); n != i || r.At() != i+1 || r.Bad() {
			t.Fatalf("U8 = %d, at %d, want %d", n, r.At(), i)
		}
	}
}

func TestU32Reads(t *testing.T) {
	r := wire.Read([]byte{0, 0, 1, 2, 0xfe, 0xdc, 0xba, 0x98, 255, 255, 255, 255, 0x80, 0, 0, 0})
	for i, want := range []uint32{258, 0xfedcba98, math.MaxUint32, 1 << 31} {
		if n := r.U32(); n != want || r.At() != 4*(i+1) || r.Bad() {
			t.Errorf("U32 = %#x, at %d, want %#x", n, r.At(), want)
		}
	}
}

func TestU64Reads(t *testing.T) {
	r := wire.Read([]byte{
		0, 0, 0, 0, 0, 0, 1, 2,
		0xfe, 0xdc, 0xba, 0x98, 0x76, 0x54, 0x32, 0x10,
		255, 255, 255, 255, 255, 255, 255, 255,
		0x80, 0, 0, 0, 0, 0, 0, 0,
	})
	for i, want := range []uint64{258, 0xfedcba9876543210, math.MaxUint64, 1 << 63} {
		if n := r.U64(); n != want || r.At() != 8*(i+1) || r.Bad() {
			t.Errorf("U64 = %#x, at %d, want %#x", n, r.At(), want)
		}
	}
}

func TestSumReads(t *testing.T) {
	a, b := sumFrom(1), sumFrom(200)
	r := wire.Read(slices.Concat([]byte{9}, a[:], b[:]))
	r.U8()
	if s := r.Sum(); s != a || r.At() != 1+api.Key || r.Bad() {
		t.Errorf("Sum = % x, at %d", s, r.At())
	}
	if s := r.Sum(); s != b || r.At() != 1+2*api.Key || r.Bad() {
		t.Errorf("Sum = % x, at %d", s, r.At())
	}
}

// Every count of bytes from none to one too many, at two positions.
func TestNumbersAndSumsThatAreCutOff(t *testing.T) {
	for _, g := range gets() {
		for ahead := range 2 {
			for n := range g.size + 2 {
				r := wire.Read(bytes.Repeat([]byte{0x81}, ahead+n))
				for range ahead {
					r.U8()
				}
				enough := n >= g.size
				at := ahead
				if enough {
					at += g.size
				}
				if g.zero(r) == enough || r.Bad() == enough || r.At() != at {
					t.Errorf("%s of %d bytes at %d: bad %v at %d", g.name, n, ahead, r.Bad(), r.At())
				}
			}
		}
	}
}

// P1.3: texts.

func TestTextReads(t *testing.T) {
	for _, c := range []struct {
		b    []byte
		most int
		want string
	}{
		{[]byte{0}, 0, ""},
		{[]byte{0}, 255, ""},
		{[]byte{1, 0}, 1, "\x00"},
		{[]byte{2, 'a', 'b'}, 2, "ab"},
		{[]byte{2, 'a', 'b'}, 3, "ab"},
		{[]byte{2, 'a', 'b'}, math.MaxInt, "ab"},
		{[]byte{2, 'a', 'b', 'c'}, 9, "ab"},
		{[]byte{2, 0xff, 0x80}, 2, "\xff\x80"},
		{append([]byte{128}, ramp(128)...), 128, ramp(128)},
		{append([]byte{255}, ramp(255)...), 255, ramp(255)},
		{append([]byte{255}, ramp(255)...), 256, ramp(255)},
		{append([]byte{255}, ramp(256)...), 1000, ramp(255)},
	} {
		r := wire.Read(c.b)
		if s := r.Text(c.most); s != c.want || r.Bad() || r.At() != 1+len(c.want) {
			t.Errorf("Text(%d) of % x = %q, bad %v at %d", c.most, c.b, s, r.Bad(), r.At())
		}
	}
}

func TestTextThatCannotBeRead(t *testing.T) {
	for _, c := range []struct {
		b    []byte
		most int
	}{
		{nil, 9}, {nil, 0}, {nil, -1},
		{[]byte{0}, -1}, {[]byte{0}, math.MinInt},
		{[]byte{1, 'a'}, 0}, {[]byte{2, 'a', 'b'}, 1}, {[]byte{2, 'a', 'b'}, -1},
		{[]byte{1}, 1}, {[]byte{2, 'a'}, 9}, {[]byte{2, 'a'}, 2}, {[]byte{2, 'a'}, 1},
		{append([]byte{255}, ramp(254)...), 255},
		{append([]byte{255}, ramp(255)...), 254},
		{append([]byte{200}, ramp(255)...), 199},
		{[]byte{255}, math.MaxInt},
	} {
		for ahead := range 3 {
			r := wire.Read(slices.Concat(make([]byte, ahead), c.b))
			for range ahead {
				r.U8()
			}
			if s := r.Text(c.most); s != "" || !r.Bad() || r.At() != ahead {
				t.Errorf("Text(%d) of % x at %d = %q, bad %v at %d", c.most, c.b, ahead, s, r.Bad(), r.At())
			}
		}
	}
}

// P1.4.

func TestEnd(t *testing.T) {
	for _, b := range [][]byte{nil, {}} {
		r := wire.Read(b)
		if !r.End() || r.Bad() {
			t.Error("a reader of nothing is not at its end")
		}
		r.U8()
		if r.End() || !r.Bad() || r.At() != 0 {
			t.Error("a bad reader of nothing is at its end")
		}
	}
	r := wire.Read([]byte{1, 2})
	for i, want := range []bool{false, false, true} {
		if r.End() != want || r.At() != i || r.Bad() {
			t.Errorf("End at %d = %v", i, r.End())
		}
		if i < 2 {
			r.U8()
		}
	}
	r.U8()
	if r.End() || r.At() != 2 || !r.Bad() {
		t.Error("a bad reader behind the last byte is at its end")
	}
}

func TestEndBehindEachValue(t *testing.T) {
	for _, g := range gets() {
		r := wire.Read(bytes.Repeat([]byte{1}, g.size))
		if r.End() {
			t.Errorf("End ahead of %s", g.name)
		}
		g.zero(r)
		if !r.End() {
			t.Errorf("no End behind %s", g.name)
		}
	}
	r := wire.Read([]byte{2, 'a', 'b'})
	if r.Text(2); !r.End() {
		t.Error("no End behind Text")
	}
}

// P1.5.

func TestNumbersComeBack(t *testing.T) {
	for n := range 256 {
		if r := wire.Read(wire.U8(nil, n)); r.U8() != n || !r.End() {
			t.Errorf("U8 %d", n)
		}
	}
	// Each bit on its own, and what borders on it, needs its own byte.
	for bit := range 64 {
		one := uint64(1) << bit
		for _, n := range []uint64{one, one - 1, one + 1, ^one, -one} {
			if r := wire.Read(wire.U64(nil, n)); r.U64() != n || !r.End() {
				t.Errorf("U64 %#x", n)
			}
			if r := wire.Read(wire.U32(nil, uint32(n))); r.U32() != uint32(n) || !r.End() {
				t.Errorf("U32 %#x", uint32(n))
			}
		}
	}
}

func TestTextsComeBack(t *testing.T) {
	for n := range 256 {
		s := ramp(n)
		if r := wire.Read(wire.Text(nil, s)); r.Text(n) != s || !r.End() {
			t.Errorf("Text of %d bytes", n)
		}
	}
	if r := wire.Read(wire.Text(nil, ramp(256))); r.Text(256) != ramp(255) || !r.End() {
		t.Error("Text of 256 bytes is not its first 255")
	}
}

func TestValuesComeBackBehindEachOther(t *testing.T) {
	sum := sumFrom(77)
	b := wire.U8(nil, 255)
	b = wire.Text(b, "")
	b = wire.U64(b, math.MaxUint64-1)
	b = append(b, sum[:]...)
	b = wire.Text(b, ramp(255))
	b = wire.U32(b, math.MaxUint32-1)
	b = wire.Text(b, "last")
	r := wire.Read(b)
	if n := r.U8(); n != 255 {
		t.Error(n)
	}
	if s := r.Text(0); s != "" {
		t.Errorf("%q", s)
	}
	if n := r.U64(); n != math.MaxUint64-1 {
		t.Error(n)
	}
	if s := r.Sum(); s != sum {
		t.Error(s)
	}
	if s := r.Text(255); s != ramp(255) {
		t.Errorf("%q", s)
	}
	if n := r.U32(); n != math.MaxUint32-1 {
		t.Error(n)
	}
	if s := r.Text(4); s != "last" {
		t.Errorf("%q", s)
	}
	if r.Bad() || !r.End() || r.At() != len(b) {
		t.Error(r.At())
	}
}

func TestTheChaptersExample(t *testing.T) {
	if b := wire.U32(nil, 258); !bytes.Equal(b, []byte{0, 0, 1, 2}) {
		t.Errorf("U32(nil, 258) = % x", b)
	}
	if b := wire.Text(nil, "ab"); !bytes.Equal(b, []byte{2, 0x61, 0x62}) {
		t.Errorf("Text(nil, ab) = % x", b)
	}
	r := wire.Read([]byte{2, 0x61})
	if s := r.Text(9); s != "" || !r.Bad() || r.At() != 0 {
		t.Errorf("Text(9) of 02 61 = %q, bad %v at %d", s, r.Bad(), r.At())
	}
}
