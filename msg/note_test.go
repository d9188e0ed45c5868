package msg_test

import (
	"bytes"
	"math"
	"testing"

	"jobber/api"
	"jobber/msg"
)

func note(t *testing.T, n api.Note, want []byte) {
	t.Helper()
	got := msg.Note(n)
	if !bytes.Equal(got, want) || (got == nil) != (want == nil) {
		t.Errorf("Note(%+v) = % x, want % x", n, got, want)
	}
}

// ordinaryNotes holds notes of each kind, and their bytes written out.
func ordinaryNotes() []struct {
	n api.Note
	b []byte
} {
	sum := sumFrom(9)
	return []struct {
		n api.Note
		b []byte
	}{
		{api.Note{Kind: api.NChallenge, Sum: sum}, append([]byte{1}, sum[:]...)},
		{api.Note{Kind: api.NChallenge}, append([]byte{1}, make([]byte, 32)...)},
		{api.Note{Kind: api.NWelcome}, []byte{2}},
		{api.Note{Kind: api.NAck, Seq: 0x01020304}, []byte{3, 1, 2, 3, 4}},
		{api.Note{Kind: api.NAck, Seq: 258}, []byte{3, 0, 0, 1, 2}},
		{api.Note{Kind: api.NReject, Seq: 0x01020304, Err: api.ErrState}, []byte{4, 1, 2, 3, 4, 9}},
		{api.Note{Kind: api.NReject, Err: api.ErrAuth}, []byte{4, 0, 0, 0, 0, 16}},
		{api.Note{Kind: api.NExec, Inst: 1, Id: 0x02030405, No: 0x06070809, Price: 0x0a0b0c0d, Qty: 0x0e0f1011, Left: 0x12131415},
			[]byte{5, 1, 2, 3, 4, 5, 6, 7, 8, 9, 10, 11, 12, 13, 14, 15, 16, 17, 18, 19, 20, 21}},
		{api.Note{Kind: api.NGone, Inst: 1, Id: 0x02030405, Left: 0x06070809}, []byte{6, 1, 2, 3, 4, 5, 6, 7, 8, 9}},
		{api.Note{Kind: api.NTrade, Inst: 1, No: 0x02030405, Price: 0x06070809, Qty: 0x0a0b0c0d},
			[]byte{7, 1, 2, 3, 4, 5, 6, 7, 8, 9, 10, 11, 12, 13}},
		{api.Note{Kind: api.NDepth, Inst: 7, Side: api.Sell, Price: 0x03040506, Qty: 0x0708090a},
			[]byte{8, 7, 2, 3, 4, 5, 6, 7, 8, 9, 10}},
		{api.Note{Kind: api.NBye}, []byte{9}},
	}
}

// P6.4.

func TestOrdinaryNotes(t *testing.T) {
	for _, o := range ordinaryNotes() {
		note(t, o.n, o.b)
	}
}

// full is a note with all its fields set, those that a kind does not name too.
func full(kind int) api.Note {
	return api.Note{Kind: kind, Err: 0x1112, Seq: 0x21222324, Inst: 0x3132, Id: 0x41424344, No: 0x51525354,
		Side: 0x6162, Price: 0x71727374, Qty: 0x81828384, Left: 0x91929394, Sum: sumFrom(0xa1)}
}

func TestNotesHoldOnlyWhatTheirKindNames(t *testing.T) {
	for _, l := range notes() {
		for _, base := range []api.Note{{Kind: l.kind}, full(l.kind)} {
			want := encode(l, base, base.Sum)
			note(t, base, want)
			for _, name := range numbers(base) {
				for _, n := range []int{1, 255, 256, 1 << 32, -1, math.MaxInt, math.MinInt} {
					if !l.names(name) {
						note(t, with(base, name, n), want)
					}
				}
			}
			if other := base; !l.sum {
				other.Sum = sumFrom(0x77)
				note(t, other, want)
			}
		}
	}
}

// Numbers of any size: of each its lowest bytes.
func TestNotesHoldTheLowestBytes(t *testing.T) {
	for _, l := range notes() {
		for _, base := range []api.Note{{Kind: l.kind}, full(l.kind)} {
			for _, f := range l.fields {
				for _, n := range edges(f) {
					changed := with(base, f.name, n)
					note(t, changed, encode(l, changed, changed.Sum))
				}
			}
		}
	}
	note(t, api.Note{Kind: api.NAck, Seq: 1<<32 + 258}, []byte{3, 0, 0, 1, 2})
	note(t, api.Note{Kind: api.NAck, Seq: -1}, []byte{3, 255, 255, 255, 255})
	note(t, api.Note{Kind: api.NAck, Seq: math.MinInt}, []byte{3, 0, 0, 0, 0})
	note(t, api.Note{Kind: api.NAck, Seq: math.MaxInt}, []byte{3, 255, 255, 255, 255})
	note(t, api.Note{Kind: api.NReject, Seq: -2, Err: 257}, []byte{4, 255, 255, 255, 254, 1})
	note(t, api.Note{Kind: api.NReject, Seq: 1 << 31, Err: -1}, []byte{4, 0x80, 0, 0, 0, 255})
	note(t, api.Note{Kind: api.NDepth, Inst: -1, Side: 258, Price: -256, Qty: 1<<40 + 1},
		[]byte{8, 255, 2, 255, 255, 255, 0, 0, 0, 0, 1})
}

func TestEachByteOfASum(t *testing.T) {
	for i := range api.Key {
		var n = api.Note{Kind: api.NChallenge}
		n.Sum[i] = 0xc3
		want := make([]byte, 1+api.Key)
		want[0], want[1+i] = 1, 0xc3
		note(t, n, want)
	}
}

func TestKindsOfNotesThatAreNone(t *testing.T) {
	for _, kind := range nothings() {
		note(t, api.Note{Kind: kind}, nil)
		note(t, full(kind), nil)
	}
}

func TestNoteAnswersNewMemory(t *testing.T) {
	for _, o := range ordinaryNotes() {
		first, second := msg.Note(o.n), msg.Note(o.n)
		scribble(first)
		if !bytes.Equal(second, o.b) {
			t.Errorf("two answers of Note(%+v) share memory", o.n)
		}
		scribble(second)
		note(t, o.n, o.b)
	}
}
