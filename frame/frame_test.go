package frame_test

import (
	"bytes"
	"encoding/binary"
	"math/rand"
	"slices"
	"testing"

	"jobber/api"
	"jobber/frame"
)

// ramp is a run of bytes in which a lost, moved or repeated byte shows.
func ramp(n int) []byte {
	b := make([]byte, n)
	for i := range b {
		b[i] = byte(1 + (i*7+i/64)%255)
	}
	return b
}

// framed is a frame by the library; it frames what Put refuses, too.
func framed(b []byte) []byte {
	return append(binary.BigEndian.AppendUint16(nil, uint16(len(b))), b...)
}

func stream(bodies ...[]byte) []byte {
	var out []byte
	for _, b := range bodies {
		out = append(out, framed(b)...)
	}
	return out
}

func texts(l ...string) [][]byte {
	var out [][]byte
	for _, s := range l {
		out = append(out, []byte(s))
	}
	return out
}

func same(a, b [][]byte) bool { return slices.EqualFunc(a, b, bytes.Equal) }

// answer is what a stream comes to, all in all.
type answer struct {
	bodies [][]byte
	left   int
	bad    bool
}

// answerOf works the answer out from the whole stream at once.
func answerOf(s []byte) answer {
	var a answer
	at := 0
	for at+2 <= len(s) {
		n := int(binary.BigEndian.Uint16(s[at:]))
		if n == 0 || n > 256 {
			return answer{bodies: a.bodies, bad: true}
		}
		if at+2+n > len(s) {
			break
		}
		a.bodies = append(a.bodies, s[at+2:at+2+n])
		at += 2 + n
	}
	a.left = len(s) - at
	return a
}

// feed holds one Feed, and what stands behind it, against what is wanted.
func feed(t *testing.T, d *frame.Deframer, b []byte, want answer) {
	t.Helper()
	got := d.Feed(b)
	if !same(got, want.bodies) || d.Left() != want.left || d.Bad() != want.bad {
		t.Errorf("Feed(% x) = % x, left %d, bad %v; want % x, %d, %v",
			b, got, d.Left(), d.Bad(), want.bodies, want.left, want.bad)
	}
}

// feedCut feeds a stream in pieces that end at the cuts, and at its end, and
// asks behind each of them for what has come until there.
func feedCut(t *testing.T, s []byte, cuts ...int) {
	t.Helper()
	d := frame.New()
	var got [][]byte
	at := 0
	for _, end := range append(slices.Clone(cuts), len(s)) {
		got = append(got, d.Feed(s[at:end])...)
		at = end
		want := answerOf(s[:at])
		if !same(got, want.bodies) || d.Left() != want.left || d.Bad() != want.bad {
			t.Fatalf("% x cut at %v: behind %d bytes %d bodies, left %d, bad %v; want %d, %d, %v",
				s, cuts, at, len(got), d.Left(), d.Bad(), len(want.bodies), want.left, want.bad)
		}
	}
}

// everyByte cuts a stream behind each of its bytes.
func everyByte(s []byte) []int {
	var cuts []int
	for i := range s {
		cuts = append(cuts, i)
	}
	return cuts
}

// wrongLengths holds the lengths at the edges of what is no length of a body.
func wrongLengths() [][]byte {
	return [][]byte{{0, 0}, {1, 1}, {1, 2}, {1, 255}, {2, 0}, {2, 1}, {0x7f, 0xff}, {0x80, 0}, {0xff, 0}, {0xff, 0xff}}
}

// scribble writes over all that can be reached from b, its spare capacity too.
func scribble(b []byte) {
	whole := b[:cap(b)]
	for i := range whole {
		whole[i] = 0x55
	}
}

// P5.1.

func TestPutOfKnownBytes(t *testing.T) {
	for _, c := range []struct{ b, want []byte }{
		{[]byte("a"), []byte{0, 1, 'a'}},
		{[]byte("bc"), []byte{0, 2, 'b', 'c'}},
		{[]byte{0}, []byte{0, 1, 0}},
		{[]byte{0, 0, 0}, []byte{0, 3, 0, 0, 0}},
		{[]byte{0, 1, 'a'}, []byte{0, 3, 0, 1, 'a'}},
		{[]byte{0xff, 0xff}, []byte{0, 2, 0xff, 0xff}},
	} {
		if got := frame.Put(c.b); !bytes.Equal(got, c.want) {
			t.Errorf("Put(% x) = % x, want % x", c.b, got, c.want)
		}
	}
}

func TestPutOfBodiesOfEveryLength(t *testing.T) {
	for n := 1; n <= api.MaxFrame; n++ {
		for _, b := range [][]byte{ramp(n), make([]byte, n), bytes.Repeat([]byte{0xff}, n)} {
			want := append([]byte{byte(n / 256), byte(n % 256)}, b...)
			if got := frame.Put(b); !bytes.Equal(got, want) {
				t.Errorf("Put of %d bytes = % x, want % x", n, got, want)
			}
		}
	}
}

func TestPutOfWhatIsNoBody(t *testing.T) {
	for _, b := range [][]byte{nil, {}, ramp(9)[:0]} {
		if got := frame.Put(b); got != nil {
			t.Errorf("Put of no bytes = % x", got)
		}
	}
	for _, n := range []int{257, 258, 300, 511, 512, 513, 4096, 65535, 65536, 65537, 65536 + 256, 65536 + 257, 1 << 20} {
		if got := frame.Put(ramp(n)); got != nil {
			t.Errorf("Put of %d bytes = %d bytes", n, len(got))
		}
	}
}

func TestPutNeitherChangesNorKeepsItsArgument(t *testing.T) {
	for _, n := range []int{0, 1, 2, 255, 256, 257} {
		back := ramp(600)
		frame.Put(back[:n])
		got := frame.Put(back[:n])
		if !bytes.Equal(back, ramp(600)) {
			t.Errorf("Put of %d bytes has written into its argument or behind it", n)
		}
		clear(back)
		if got != nil && !bytes.Equal(got, framed(ramp(n))) {
			t.Errorf("the frame of %d bytes has changed with its argument", n)
		}
	}
}

func TestPutAnswersNewMemory(t *testing.T) {
	for _, n := range []int{1, 2, 255, 256} {
		back := ramp(600)
		first, second := frame.Put(back[:n]), frame.Put(back[:n])
		scribble(first)
		if !bytes.Equal(back, ramp(600)) {
			t.Errorf("the frame of %d bytes lies in its argument's memory", n)
		}
		if !bytes.Equal(second, framed(ramp(n))) {
			t.Errorf("two frames of %d bytes share memory", n)
		}
		if !bytes.Equal(frame.Put(ramp(n)), framed(ramp(n))) {
			t.Errorf("a frame of %d bytes shares memory with a later one", n)
		}
	}
}

// P5.2.

func TestNewHasNoBytes(t *testing.T) {
	d := frame.New()
	if d == nil || d.Left() != 0 || d.Bad() {
		t.Fatal("a new deframer has bytes, or is bad")
	}
	for _, b := range [][]byte{nil, {}, ramp(9)[:0]} {
		feed(t, d, b, answer{})
	}
	feed(t, d, []byte{0, 1, 'a'}, answer{bodies: texts("a")})
}

func TestOneByteIsNotYetALength(t *testing.T) {
	for first := range 256 {
		d := frame.New()
		feed(t, d, []byte{byte(first)}, answer{left: 1})
		feed(t, d, nil, answer{left: 1})
	}
}

// All lengths that two bytes can tell, with no body behind them yet.
func TestEveryLength(t *testing.T) {
	for n := range 1 << 16 {
		b := []byte{byte(n >> 8), byte(n)}
		want := answer{left: 2}
		if n < 1 || n > 256 {
			want = answer{bad: true}
		}
		feed(t, frame.New(), b, want)
		d := frame.New()
		feed(t, d, b[:1], answer{left: 1})
		feed(t, d, b[1:], want)
	}
}

// A length is wrong or right by itself, even with all bytes of its body there.
func TestEveryLengthWithItsBody(t *testing.T) {
	for _, n := range []int{0, 1, 2, 127, 128, 255, 256, 257, 258, 511, 512, 513, 4096, 65535} {
		s := framed(ramp(n))
		want := answer{bodies: [][]byte{ramp(n)}}
		if n < 1 || n > 256 {
			want = answer{bad: true}
		}
		feed(t, frame.New(), s, want)
	}
}

func TestLeftCountsWhatIsNotTold(t *testing.T) {
	d := frame.New()
	feed(t, d, []byte{0}, answer{left: 1})
	feed(t, d, []byte{3}, answer{left: 2})
	feed(t, d, []byte{'a'}, answer{left: 3})
	feed(t, d, []byte{'b'}, answer{left: 4})
	feed(t, d, []byte{'c', 0, 2, 'd'}, answer{bodies: texts("abc"), left: 3})
	feed(t, d, nil, answer{left: 3})
	feed(t, d, []byte{'e', 1}, answer{bodies: texts("de"), left: 1})
	feed(t, d, []byte{0}, answer{left: 2})
	feed(t, d, ramp(255), answer{left: 257})
	feed(t, d, []byte{0xee}, answer{bodies: [][]byte{append(ramp(255), 0xee)}})
}

func TestAskingChangesNothing(t *testing.T) {
	d := frame.New()
	feed(t, d, []byte{0, 2, 'a'}, answer{left: 3})
	for range 5 {
		if d.Left() != 3 || d.Bad() {
			t.Fatal("asked again, a deframer answers otherwise")
		}
	}
	feed(t, d, []byte{'b'}, answer{bodies: texts("ab")})
	feed(t, d, []byte{0, 0}, answer{bad: true})
	for range 5 {
		if d.Left() != 0 || !d.Bad() {
			t.Fatal("asked again, a bad deframer answers otherwise")
		}
	}
}

func TestABadDeframerStaysBad(t *testing.T) {
	for _, wrong := range wrongLengths() {
		d := frame.New()
		feed(t, d, wrong, answer{bad: true})
		for _, b := range [][]byte{nil, {}, {0}, {1}, {0, 1}, {0, 1, 'a'}, stream(texts("a", "bc")...), wrong, ramp(600)} {
			if got := d.Feed(b); got != nil {
				t.Errorf("behind % x: Feed(% x) = % x", wrong, b, got)
			}
			if d.Left() != 0 || !d.Bad() {
				t.Errorf("behind % x and % x: left %d, bad %v", wrong, b, d.Left(), d.Bad())
			}
		}
	}
}

func TestTwoDeframersDoNotTouchEachOther(t *testing.T) {
	x, y, z := frame.New(), frame.New(), frame.New()
	feed(t, x, []byte{0, 3, 'a'}, answer{left: 3})
	feed(t, y, []byte{0, 2, 'x'}, answer{left: 3})
	feed(t, x, []byte{'b'}, answer{left: 4})
	feed(t, z, []byte{0, 0}, answer{bad: true})
	feed(t, y, []byte{'y', 0}, answer{bodies: texts("xy"), left: 1})
	feed(t, x, []byte{'c', 9}, answer{bodies: texts("abc"), left: 1})
	feed(t, y, []byte{1, 'z'}, answer{bodies: texts("z")})
	feed(t, x, []byte{9}, answer{bad: true})
	feed(t, y, []byte{0, 1, 'w'}, answer{bodies: texts("w")})
	feed(t, frame.New(), []byte{'c'}, answer{left: 1})
}

// P5.3.

func TestTheChaptersExample(t *testing.T) {
	d := frame.New()
	feed(t, d, []byte{0, 1, 0x61, 0}, answer{bodies: texts("a"), left: 1})
	feed(t, d, []byte{2, 0x62, 0x63}, answer{bodies: texts("bc")})
	feed(t, d, []byte{0, 0, 0}, answer{bad: true})
	if d.Left() != 0 {
		t.Errorf("Left = %d", d.Left())
	}
}

func TestBodiesOfEveryLengthComeBack(t *testing.T) {
	d := frame.New()
	for n := 1; n <= api.MaxFrame; n++ {
		feed(t, d, frame.Put(ramp(n)), answer{bodies: [][]byte{ramp(n)}})
	}
}

func TestSeveralBodiesInOnePiece(t *testing.T) {
	bodies := [][]byte{ramp(1), {0}, ramp(256), {0, 0}, {0, 1, 'a'}, ramp(255), ramp(1), {0xff, 0xff}, make([]byte, 256)}
	feed(t, frame.New(), stream(bodies...), answer{bodies: bodies})
	feed(t, frame.New(), append(stream(bodies...), 0, 9, 'a'), answer{bodies: bodies, left: 3})
}

func TestManyBodiesInOnePiece(t *testing.T) {
	var bodies [][]byte
	for i := range 5000 {
		bodies = append(bodies, ramp(300)[i%40:i%40+1+i%256])
	}
	if got := frame.New().Feed(stream(bodies...)); !same(got, bodies) {
		t.Errorf("%d bodies of 5000, or in another order", len(got))
	}
}

func TestBodiesAheadOfAWrongLengthAreTold(t *testing.T) {
	for _, wrong := range wrongLengths() {
		for ahead := range 4 {
			bodies := [][]byte{[]byte("a"), ramp(256), []byte("bc")}[:ahead]
			s := append(stream(bodies...), wrong...)
			feed(t, frame.New(), s, answer{bodies: bodies, bad: true})
			// What stands behind a wrong length is no frame, however it looks.
			s = append(s, stream(texts("x", "yz")...)...)
			feed(t, frame.New(), s, answer{bodies: bodies, bad: true})
		}
	}
}

func TestAWrongLengthCutInTwo(t *testing.T) {
	for _, wrong := range wrongLengths() {
		d := frame.New()
		feed(t, d, append(stream(texts("a", "bc")...), wrong[0]), answer{bodies: texts("a", "bc"), left: 1})
		feed(t, d, nil, answer{left: 1})
		feed(t, d, append([]byte{wrong[1]}, stream(texts("d")...)...), answer{bad: true})
		feed(t, d, stream(texts("d")...), answer{bad: true})
	}
}

// Bytes within a body are no lengths.
func TestABodyMayLookLikeAWrongLength(t *testing.T) {
	for _, wrong := range wrongLengths() {
		feedCut(t, stream(wrong, wrong, framed(nil), bytes.Repeat(wrong, 100)), everyByte(stream(wrong, wrong))...)
	}
}

func TestFeedNeitherChangesNorKeepsItsArgument(t *testing.T) {
	for _, ends := range [][]int{{1}, {2}, {3}, {4, 5}, {1, 2, 3, 4, 5, 6, 7}, {9}, {10, 200}} {
		s := stream([]byte("a"), []byte("bcd"), ramp(250), []byte("e"))
		d := frame.New()
		var got [][]byte
		at := 0
		for _, end := range append(ends, len(s)) {
			own := append(slices.Clone(s[at:end]), ramp(50)...)
			before := slices.Clone(own)
			got = append(got, d.Feed(own[:end-at])...)
			if !bytes.Equal(own, before) {
				t.Errorf("Feed until %d has written into its argument or behind it", end)
			}
			scribble(own)
			at = end
		}
		if want := answerOf(s); !same(got, want.bodies) || d.Left() != 0 || d.Bad() {
			t.Errorf("cut at %v: the bodies have changed with their pieces: % x", ends, got)
		}
	}
}

// The bytes behind a piece would make the frame whole, or its length wrong.
func TestFeedDoesNotReachTheSpareCapacity(t *testing.T) {
	s := stream([]byte("ab"), ramp(256))
	for end := range s {
		want := answerOf(slices.Clone(s[:end]))
		feed(t, frame.New(), s[:end], want)
	}
	feed(t, frame.New(), []byte{0, 0, 0}[:1], answer{left: 1})
	feed(t, frame.New(), []byte{0, 1, 'a', 0, 0}[:3], answer{bodies: texts("a")})
}

func TestFeedDoesNotWriteBehindWhatIsLeft(t *testing.T) {
	back := []byte{0, 4, 'a', 'b', 'X', 'Y', 'Z'}
	d := frame.New()
	d.Feed(back[:4])
	feed(t, d, []byte("cd"), answer{bodies: texts("abcd")})
	if string(back[4:]) != "XYZ" {
		t.Errorf("a later Feed has written behind an earlier piece: %q", back[4:])
	}
}

func TestFeedAnswersNewMemory(t *testing.T) {
	own := append(stream([]byte("ab"), ramp(256), []byte("cd"), []byte("e")), 0, 4, 'f', 'g')
	before := slices.Clone(own)
	d := frame.New()
	got := d.Feed(own)
	if len(got) != 4 {
		t.Fatalf("%d bodies", len(got))
	}
	want := [][]byte{[]byte("ab"), ramp(256), []byte("cd"), []byte("e")}
	for i := range got {
		scribble(got[i])
		if !bytes.Equal(own, before) {
			t.Errorf("body %d lies in its argument's memory", i)
		}
		if !same(got[i+1:], want[i+1:]) {
			t.Errorf("body %d shares memory with a later one", i)
		}
	}
	// All that can be reached from the first answer may be written over.
	for i, whole := 0, got[:cap(got)]; i < len(whole); i++ {
		whole[i] = []byte("lost")
	}
	feed(t, d, append([]byte("hi"), framed([]byte("j"))...), answer{bodies: texts("fghi", "j")})
}

// Read from the last to the first, for a body may reach into the one ahead.
func TestFeedAnswersNewMemoryBackwards(t *testing.T) {
	want := [][]byte{[]byte("ab"), ramp(256), []byte("cd"), []byte("e")}
	got := frame.New().Feed(stream(want...))
	for i := len(got) - 1; i >= 0; i-- {
		scribble(got[i])
		if !same(got[:i], want[:i]) {
			t.Errorf("body %d shares memory with an earlier one", i)
		}
	}
}

func TestALaterFeedLeavesEarlierBodiesAlone(t *testing.T) {
	d := frame.New()
	first := d.Feed([]byte{0, 2, 'a', 'b', 0, 2, 'c'})
	second := d.Feed([]byte{'d', 0, 3, 'e'})
	third := d.Feed([]byte{'f', 'g', 0, 0, 9})
	d.Feed(ramp(300))
	if !same(first, texts("ab")) || !same(second, texts("cd")) || !same(third, texts("efg")) {
		t.Errorf("bodies have changed later on: %q %q %q", first, second, third)
	}
}

func TestNothingIsToldTwice(t *testing.T) {
	d := frame.New()
	feed(t, d, stream(texts("a", "b")...), answer{bodies: texts("a", "b")})
	for range 3 {
		feed(t, d, nil, answer{})
	}
	feed(t, d, stream(texts("c")...), answer{bodies: texts("c")})
}

// P5.4.

// someStreams holds streams that end well, in the middle of a frame, and bad.
func someStreams() [][]byte {
	good := stream([]byte("a"), []byte{0, 0}, []byte("bcd"), []byte{0, 1, 'x'}, []byte("e"))
	out := [][]byte{nil, good, append(slices.Clone(good), 0), append(slices.Clone(good), 0, 9, 'f')}
	for _, wrong := range wrongLengths() {
		out = append(out, wrong, slices.Concat(good, wrong), slices.Concat(good, wrong, good))
	}
	return out
}

func TestEveryCutInTwoAndInThree(t *testing.T) {
	for _, s := range someStreams() {
		feedCut(t, s)
		for second := range len(s) + 1 {
			feedCut(t, s, second)
			for first := range second + 1 {
				feedCut(t, s, first, second)
			}
		}
	}
}

func TestByteByByte(t *testing.T) {
	for _, s := range someStreams() {
		feedCut(t, s, everyByte(s)...)
	}
	s := stream(ramp(256), ramp(1), make([]byte, 256), bytes.Repeat([]byte{0xff}, 255), ramp(256))
	feedCut(t, s, everyByte(s)...)
	for at := range s {
		feedCut(t, s, at)
	}
}

func TestAllShortStreamsOfSmallBytes(t *testing.T) {
	for size := range 7 {
		count := 1
		for range size {
			count *= 4
		}
		for k := range count {
			s := make([]byte, size)
			for i := range s {
				s[i] = byte(k >> (2 * i) & 3)
			}
			feedCut(t, s)
			feedCut(t, s, everyByte(s)...)
			feedCut(t, s, size/2)
		}
	}
}

func TestDrawnStreamsAndCuts(t *testing.T) {
	draw := rand.New(rand.NewSource(5))
	for range 3000 {
		var s []byte
		for range draw.Intn(8) {
			b := make([]byte, 1+draw.Intn(256))
			draw.Read(b)
			s = append(s, framed(b)...)
		}
		switch draw.Intn(4) {
		case 0:
			s = s[:draw.Intn(len(s)+1)]
		case 1:
			s = append(s, wrongLengths()[draw.Intn(10)]...)
		case 2:
			s = append(s, ramp(draw.Intn(9))...)
		}
		var cuts []int
		for range draw.Intn(12) {
			cuts = append(cuts, draw.Intn(len(s)+1))
		}
		slices.Sort(cuts)
		feedCut(t, s, cuts...)
	}
}

// T1: whatever comes, what is left is less than one frame.
func TestLeftStaysBelowOneFrame(t *testing.T) {
	draw := rand.New(rand.NewSource(55))
	for range 200 {
		d := frame.New()
		for range 50 {
			b := make([]byte, draw.Intn(700))
			for i := range b {
				b[i] = byte(draw.Intn(2))
			}
			d.Feed(b)
			if n := d.Left(); n < 0 || n > api.MaxFrame+1 {
				t.Fatalf("%d bytes are left", n)
			}
		}
	}
}
