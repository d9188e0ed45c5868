package msg_test

import (
	"bytes"
	"math"
	"math/rand"
	"slices"
	"strings"
	"testing"

	"jobber/api"
	"jobber/msg"
)

// check holds one command against what is wanted of it: P6.1 to P6.3.
func check(t *testing.T, c api.Cmd, want []byte) {
	t.Helper()
	if got := msg.Right(c); got != (want != nil) {
		t.Errorf("Right(%+v) = %v", c, got)
	}
	got := msg.Put(c)
	if !bytes.Equal(got, want) || (got == nil) != (want == nil) {
		t.Errorf("Put(%+v) = % x, want % x", c, got, want)
	}
	if want == nil {
		return
	}
	if back, ok := msg.Get(want); !ok || back != c {
		t.Errorf("Get(% x) = %+v, %v; want %+v", want, back, ok, c)
	}
}

// ordinary holds commands of each kind, and their bytes written out.
func ordinary() []struct {
	c api.Cmd
	b []byte
} {
	tag := sumFrom(1)
	return []struct {
		c api.Cmd
		b []byte
	}{
		{api.Cmd{Kind: api.CHello, Trader: 3}, []byte{1, 3}},
		{api.Cmd{Kind: api.CHello, Trader: 31}, []byte{1, 31}},
		{api.Cmd{Kind: api.CHello}, []byte{1, 0}},
		{api.Cmd{Kind: api.CAnswer, Tag: tag}, append([]byte{2}, tag[:]...)},
		{api.Cmd{Kind: api.CAnswer}, append([]byte{2}, make([]byte, 32)...)},
		{api.Cmd{Kind: api.CNew, Seq: 0x01020304, Inst: 5, Id: 0x06070809, Side: 0x0a, Order: 0x0b,
			Price: 0x0c0d0e0f, Qty: 0x10111213, Show: 0x14151617, Stop: 0x18191a1b},
			[]byte{3, 1, 2, 3, 4, 5, 6, 7, 8, 9, 10, 11, 12, 13, 14, 15, 16, 17, 18, 19, 20, 21, 22, 23, 24, 25, 26, 27}},
		{api.Cmd{Kind: api.CNew, Seq: 1, Inst: 7, Id: 1 << 30, Side: api.Sell, Order: api.Post, Price: 258, Qty: 3},
			[]byte{3, 0, 0, 0, 1, 7, 0x40, 0, 0, 0, 2, 5, 0, 0, 1, 2, 0, 0, 0, 3, 0, 0, 0, 0, 0, 0, 0, 0}},
		{api.Cmd{Kind: api.CNew, Side: 255, Order: 254},
			[]byte{3, 0, 0, 0, 0, 0, 0, 0, 0, 0, 255, 254, 0, 0, 0, 0, 0, 0, 0, 0, 0, 0, 0, 0, 0, 0, 0, 0}},
		{api.Cmd{Kind: api.CCancel, Seq: 0x01020304, Inst: 5, Id: 0x06070809, Trader: 10},
			[]byte{4, 1, 2, 3, 4, 5, 6, 7, 8, 9, 10}},
		{api.Cmd{Kind: api.CAmend, Seq: 0x01020304, Inst: 5, Id: 0x06070809, Price: 0x0a0b0c0d, Qty: 0x0e0f1011},
			[]byte{5, 1, 2, 3, 4, 5, 6, 7, 8, 9, 10, 11, 12, 13, 14, 15, 16, 17}},
		{api.Cmd{Kind: api.CMass, Seq: 0x01020304, Inst: 5, What: api.SFirm}, []byte{6, 1, 2, 3, 4, 5, 3}},
		{api.Cmd{Kind: api.CMass, Seq: 1, Inst: 8, What: api.SDesk}, []byte{6, 0, 0, 0, 1, 8, 2}},
		{api.Cmd{Kind: api.CMass, What: api.SOwn}, []byte{6, 0, 0, 0, 0, 0, 1}},
		{api.Cmd{Kind: api.CBeat}, []byte{7}},
		{api.Cmd{Kind: api.CBye}, []byte{8}},
		{api.Cmd{Kind: api.CAdmin, Seq: 0x01020304, What: api.WHalt, A: 6, B: 7}, []byte{9, 1, 2, 3, 4, 4, 6, 7}},
		{api.Cmd{Kind: api.CAdmin, Seq: 1 << 30, What: api.WRevoke, A: 255, B: 200}, []byte{9, 0x40, 0, 0, 0, 9, 255, 200}},
		{api.Cmd{Kind: api.CAdmin, What: api.WSuspend}, []byte{9, 0, 0, 0, 0, 1, 0, 0}},
	}
}

// P6.1, P6.2, P6.3.

func TestOrdinaryCommands(t *testing.T) {
	for _, o := range ordinary() {
		check(t, o.c, o.b)
	}
}

func TestTheChaptersExample(t *testing.T) {
	check(t, api.Cmd{Kind: api.CHello, Trader: 3}, []byte{1, 3})
	check(t, api.Cmd{Kind: api.CMass, Seq: 1, Inst: 8, What: 2}, []byte{6, 0, 0, 0, 1, 8, 2})
	if b := msg.Note(api.Note{Kind: api.NAck, Seq: 258}); !bytes.Equal(b, []byte{3, 0, 0, 1, 2}) {
		t.Errorf("Note of an NAck of 258 = % x", b)
	}
}

func TestCommandsOfZerosAlone(t *testing.T) {
	check(t, api.Cmd{}, nil)
	for _, l := range commands() {
		c := api.Cmd{Kind: l.kind}
		// Only a What must not be 0 where it is named.
		if l.names("What") {
			check(t, c, nil)
		} else {
			check(t, c, encode(l, c, c.Tag))
		}
	}
}

func TestTheEdgesOfEachField(t *testing.T) {
	for _, l := range commands() {
		for _, base := range bases(l) {
			check(t, base, encode(l, base, base.Tag))
			for _, f := range l.fields {
				for _, n := range edges(f) {
					c := with(base, f.name, n)
					if f.least <= n && n <= f.most {
						check(t, c, encode(l, c, c.Tag))
					} else {
						check(t, c, nil)
					}
				}
			}
		}
	}
}

func TestEachValueOfAByte(t *testing.T) {
	for _, l := range commands() {
		base := bases(l)[1]
		for _, f := range l.fields {
			for n := -300; f.size == 1 && n < 600; n++ {
				if got, want := msg.Right(with(base, f.name, n)), f.least <= n && n <= f.most; got != want {
					t.Errorf("%s with %s %d: Right = %v", l.name, f.name, n, got)
				}
			}
		}
	}
}

// P6.1: a field that is not named must be zero, also where its lowest byte, or
// its lowest 32 bits, are.
func TestFieldsThatAKindDoesNotName(t *testing.T) {
	for _, l := range commands() {
		for _, base := range bases(l) {
			for _, name := range numbers(base) {
				if l.names(name) {
					continue
				}
				for _, n := range []int{1, 2, 3, 7, 9, 31, 255, 256, 1 << 30, 1 << 32, 1 << 62, -1, -256, -1 << 32, math.MaxInt, math.MinInt} {
					check(t, with(base, name, n), nil)
				}
			}
			for i := range base.Tag {
				c := base
				c.Tag[i] ^= 1 << (i % 8)
				if l.sum {
					check(t, c, encode(l, c, c.Tag))
				} else {
					check(t, c, nil)
				}
			}
		}
	}
}

// An Inst of MaxInst stands for all instruments in a CMass alone.
func TestInstOfAllIsForMassAlone(t *testing.T) {
	for _, l := range commands() {
		for _, base := range bases(l) {
			if got := msg.Right(with(base, "Inst", 8)); got != (l.kind == api.CMass) {
				t.Errorf("%s with Inst 8: Right = %v", l.name, got)
			}
		}
	}
}

func TestKindsThatAreNone(t *testing.T) {
	for _, kind := range nothings() {
		check(t, api.Cmd{Kind: kind}, nil)
		for _, l := range commands() {
			for _, c := range bases(l) {
				check(t, with(c, "Kind", kind), nil)
			}
		}
	}
}

// Two wrongs must not make a right: a command with several fields set at
// random is valid only if each of them is.
func TestCommandsAtRandom(t *testing.T) {
	random := rand.New(rand.NewSource(6))
	valid, all := 0, 40000
	for range all {
		l := commands()[random.Intn(9)]
		c := bases(l)[random.Intn(3)]
		for _, name := range numbers(c) {
			if random.Intn(9) == 0 {
				c = with(c, name, []int{0, 1, 3, 7, 8, 31, 255, 256, 1 << 30, 1<<30 + 1, -1}[random.Intn(11)])
			}
		}
		if fits(l, c) {
			valid++
			check(t, c, encode(l, c, c.Tag))
		} else {
			check(t, c, nil)
		}
	}
	if valid < all/20 || valid > all*19/20 {
		t.Errorf("%d of %d were valid, so one of both was hardly tried", valid, all)
	}
}

// fits is P6.1 worked out from the layout, for a command of its kind.
func fits(l layout, c api.Cmd) bool {
	for _, name := range numbers(c) {
		n := number(c, name)
		at := slices.IndexFunc(l.fields, func(f field) bool { return f.name == name })
		if at < 0 && n != 0 || at >= 0 && (n < l.fields[at].least || n > l.fields[at].most) {
			return false
		}
	}
	return l.sum || c.Tag == api.Sum{}
}

// P6.3.

// get holds one Get against P6.3, both ways round.
func get(t *testing.T, b []byte) {
	t.Helper()
	want, there := decode(b)
	c, ok := msg.Get(b)
	if c != want || ok != there {
		t.Errorf("Get(% x) = %+v, %v; want %+v, %v", b, c, ok, want, there)
	}
	if ok && !bytes.Equal(msg.Put(c), b) {
		t.Errorf("Get(% x) = %+v, but its Put is % x", b, c, msg.Put(c))
	}
}

// nothing asks for the refusal itself, whatever decode says.
func nothing(t *testing.T, b []byte) {
	t.Helper()
	if c, ok := msg.Get(b); ok || c != (api.Cmd{}) {
		t.Errorf("Get(% x) = %+v, %v", b, c, ok)
	}
}

func TestGetOfNoBytes(t *testing.T) {
	nothing(t, nil)
	nothing(t, []byte{})
	nothing(t, []byte{1, 3}[:0])
}

func TestGetOfAllShortInputs(t *testing.T) {
	for first := range 256 {
		get(t, []byte{byte(first)})
		for second := range 256 {
			get(t, []byte{byte(first), byte(second)})
		}
	}
}

func TestGetOfEncodingsThatAreCutOrTooLong(t *testing.T) {
	for _, l := range commands() {
		for _, c := range bases(l) {
			b := encode(l, c, c.Tag)
			for n := range b {
				nothing(t, b[:n])
				nothing(t, slices.Clone(b[:n]))
				nothing(t, slices.Delete(slices.Clone(b), n, n+1))
			}
			for more := range 256 {
				nothing(t, slices.Concat(b, []byte{byte(more)}))
			}
			nothing(t, slices.Concat(b, b))
			nothing(t, slices.Concat([]byte{0}, b))
			nothing(t, slices.Concat(b, make([]byte, 300)))
		}
	}
}

func TestGetOfKindsThatAreNone(t *testing.T) {
	for kind := range 256 {
		if 1 <= kind && kind <= 9 {
			continue
		}
		for n := range 40 {
			nothing(t, append([]byte{byte(kind)}, make([]byte, n)...))
		}
		for _, l := range commands() {
			for _, c := range bases(l) {
				nothing(t, append([]byte{byte(kind)}, encode(l, c, c.Tag)[1:]...))
			}
		}
	}
}

// Each byte of each encoding with every value: those among them whose fields
// are not valid too, and those of another kind.
func TestGetWithEachByteChanged(t *testing.T) {
	for _, l := range commands() {
		for _, c := range bases(l) {
			b := encode(l, c, c.Tag)
			for i := range b {
				for x := range 256 {
					changed := slices.Clone(b)
					changed[i] = byte(x)
					get(t, changed)
				}
			}
		}
	}
}

func TestGetOfFieldsThatAreNotValid(t *testing.T) {
	for _, l := range commands() {
		for _, f := range l.fields {
			for _, n := range edges(f) {
				c := with(bases(l)[1], f.name, n)
				// What does not go into the field's bytes is not seen there.
				if seen := n & (1<<(8*f.size) - 1); n != seen || f.least <= n && n <= f.most {
					continue
				}
				nothing(t, encode(l, c, c.Tag))
			}
		}
	}
	for _, b := range [][]byte{
		{1, 32}, {1, 255},
		{4, 0, 0, 0, 2, 8, 0, 0, 0, 9, 0}, {4, 0, 0, 0, 2, 1, 0, 0, 0, 9, 32},
		{4, 0x40, 0, 0, 1, 1, 0, 0, 0, 9, 0}, {4, 0, 0, 0, 2, 1, 0x40, 0, 0, 1, 0},
		{4, 0x80, 0, 0, 0, 1, 0, 0, 0, 9, 0}, {4, 255, 255, 255, 255, 1, 0, 0, 0, 9, 0},
		{6, 0, 0, 0, 1, 9, 2}, {6, 0, 0, 0, 1, 8, 0}, {6, 0, 0, 0, 1, 8, 4},
		{9, 0, 0, 0, 4, 0, 0, 0}, {9, 0, 0, 0, 4, 10, 0, 0}, {9, 0x40, 0, 0, 1, 1, 0, 0},
	} {
		nothing(t, b)
	}
}

// P6.5.

// many holds, of each kind, commands whose fields border on each other.
func many() []api.Cmd {
	var out []api.Cmd
	for _, l := range commands() {
		of := bases(l)
		for _, f := range l.fields {
			for _, c := range bases(l) {
				for _, n := range []int{f.least, f.least + 1, f.most - 1, f.most, 2, 3, 1 << 8, 1 << 16, 1 << 24, 0x01010101} {
					of = append(of, with(c, f.name, min(n, f.most)))
				}
			}
		}
		for i := range api.Key {
			if c := of[0]; l.sum {
				c.Tag[i] = 1
				of = append(of, c)
			}
		}
		out = append(out, of...)
	}
	return out
}

func TestNoTwoCommandsHaveOneEncoding(t *testing.T) {
	of := map[string]api.Cmd{}
	for _, c := range many() {
		b := string(msg.Put(c))
		if other, ok := of[b]; b == "" || ok && other != c {
			t.Errorf("Put(%+v) = % x, as of %+v", c, b, other)
		}
		of[b] = c
	}
	if len(of) < 200 {
		t.Errorf("only %d encodings were held against each other", len(of))
	}
}

// Among sorted texts, one that begins with another stands right behind it, or
// behind others that begin with it too.
func TestNoEncodingBeginsWithAnotherOne(t *testing.T) {
	var all []string
	for _, c := range many() {
		all = append(all, string(msg.Put(c)))
	}
	slices.Sort(all)
	all = slices.Compact(all)
	for i, b := range all[1:] {
		if strings.HasPrefix(b, all[i]) {
			t.Errorf("% x begins with % x", b, all[i])
		}
	}
}

// What comes in, and what goes out.

func scribble(b []byte) {
	whole := b[:cap(b)]
	for i := range whole {
		whole[i] = 0x55
	}
}

func TestGetLeavesItsBytesAlone(t *testing.T) {
	for _, o := range ordinary() {
		for n := range len(o.b) + 2 {
			back := slices.Concat(o.b, bytes.Repeat([]byte{0xaa}, 40))
			was := slices.Clone(back)
			got, ok := msg.Get(back[:n])
			if !bytes.Equal(back, was) {
				t.Fatalf("Get(% x) wrote: % x", was[:n], back)
			}
			if ok != (n == len(o.b)) {
				t.Errorf("Get(% x) = %v: what lies behind was read", was[:n], ok)
			}
			scribble(back)
			if ok && got != o.c {
				t.Errorf("what Get(% x) answered changed with its bytes", was[:n])
			}
		}
	}
}

func TestPutAnswersNewMemory(t *testing.T) {
	for _, o := range ordinary() {
		first, second := msg.Put(o.c), msg.Put(o.c)
		scribble(first)
		if !bytes.Equal(second, o.b) {
			t.Errorf("two answers of Put(%+v) share memory", o.c)
		}
		scribble(second)
		check(t, o.c, o.b)
	}
}

func TestCommandsBetweenOthersAreTheSame(t *testing.T) {
	var kept [][]byte
	for _, o := range ordinary() {
		kept = append(kept, msg.Put(o.c))
		msg.Get([]byte{4, 1})
		msg.Put(api.Cmd{Kind: 77})
	}
	for i, o := range ordinary() {
		if !bytes.Equal(kept[i], o.b) {
			t.Errorf("Put(%+v) became % x", o.c, kept[i])
		}
	}
}
