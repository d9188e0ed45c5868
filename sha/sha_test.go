package sha_test

import (
	"bytes"
	"crypto/sha256"
	"encoding/hex"
	"math/rand"
	"slices"
	"strings"
	"testing"

	"jobber/api"
	"jobber/sha"
)

// ramp is a message in which every block differs from the others, so that a
// lost, moved or repeated byte shows.
func ramp(n int) []byte {
	b := make([]byte, n)
	for i := range b {
		b[i] = byte(i*7 + i/64 + 3)
	}
	return b
}

func hexOf(s api.Sum) string { return hex.EncodeToString(s[:]) }

// written answers a Hash that received the pieces.
func written(pieces ...[]byte) *sha.Hash {
	h := sha.New()
	for _, p := range pieces {
		h.Write(p)
	}
	return h
}

// check holds h against what it has received.
func check(t *testing.T, h *sha.Hash, received []byte) {
	t.Helper()
	if got, want := h.Sum(), api.Sum(sha256.Sum256(received)); got != want {
		t.Errorf("behind %d bytes Sum() = %s, want %s", len(received), hexOf(got), hexOf(want))
	}
	if got := h.Len(); got != len(received) {
		t.Errorf("behind %d bytes Len() = %d", len(received), got)
	}
}

// P2.1, P2.2: known messages.

func TestTheChaptersExample(t *testing.T) {
	for _, c := range []struct{ message, want string }{
		{"", "e3b0c44298fc1c149afbf4c8996fb92427ae41e4649b934ca495991b7852b855"},
		{"abc", "ba7816bf8f01cfea414140de5dae2223b00361a396177a9cb410ff61f20015ad"},
	} {
		if got := hexOf(sha.Sum([]byte(c.message))); got != c.want {
			t.Errorf("Sum(%q) = %s, want %s", c.message, got, c.want)
		}
	}
}

func TestSumOfKnownMessages(t *testing.T) {
	for _, c := range []struct{ message, want string }{
		{"a", "ca978112ca1bbdcafac231b39a23dc4da786eff8147c4e72b9807785afee48bb"},
		{"abcdbcdecdefdefgefghfghighijhijkijkljklmklmnlmnomnopnopq",
			"248d6a61d20638b8e5c026930c3e6039a33ce45964ff2167f6ecedd419db06c1"},
		{"abcdefghbcdefghicdefghijdefghijkefghijklfghijklmghijklmnhijklmnoijklmnopjklmnopqklmnopqrlmnopqrsmnopqrstnopqrstu",
			"cf5b16a778af8380036ce59e7b0492370b249b11e8f07a51afac45037afee9d1"},
		{"The quick brown fox jumps over the lazy dog",
			"d7a8fbb307d7809469ca9abcb0082e4f8d5651e46d3cdb762d02d0bf37c9e592"},
		{strings.Repeat("a", 1000000),
			"cdc76e5c9914fb9281a1c7e284d73e67f1809a48a497200e046d39ccc7112cd0"},
	} {
		if got := hexOf(sha.Sum([]byte(c.message))); got != c.want {
			t.Errorf("Sum(%.20q..) = %s, want %s", c.message, got, c.want)
		}
	}
}

// P2.2: all lengths about the ends of four blocks, 55, 56 and 57 and 63, 64
// and 65 among them.
func TestSumOfEveryLength(t *testing.T) {
	for _, fill := range []func(int) []byte{
		ramp,
		func(n int) []byte { return make([]byte, n) },
		func(n int) []byte { return bytes.Repeat([]byte{0xff}, n) },
		func(n int) []byte { return bytes.Repeat([]byte{0x80}, n) },
	} {
		for n := range 322 {
			b := fill(n)
			if got, want := sha.Sum(b), api.Sum(sha256.Sum256(b)); got != want {
				t.Errorf("Sum of %d bytes = %s, want %s", n, hexOf(got), hexOf(want))
			}
		}
	}
}

func TestSumOfEveryBit(t *testing.T) {
	for bit := range 8 * 128 {
		b := make([]byte, 128)
		b[bit/8] = 0x80 >> (bit % 8)
		if sha.Sum(b) != sha256.Sum256(b) {
			t.Errorf("Sum of 128 bytes with bit %d alone is wrong", bit)
		}
	}
}

// What the message is made of must not be taken for the message itself.
func TestSumTellsAMessageFromItsPadding(t *testing.T) {
	for n := range 130 {
		b := ramp(n)
		marked := append(slices.Clone(b), 0x80)
		zero := append(slices.Clone(b), 0)
		if sha.Sum(b) == sha.Sum(marked) || sha.Sum(b) == sha.Sum(zero) {
			t.Errorf("%d bytes and one byte more have one Sum", n)
		}
	}
}

func TestSumOfNilAndEmptyAreTheSame(t *testing.T) {
	want := api.Sum(sha256.Sum256(nil))
	for _, b := range [][]byte{nil, {}, ramp(70)[:0]} {
		if got := sha.Sum(b); got != want {
			t.Errorf("Sum of no bytes = %s, want %s", hexOf(got), hexOf(want))
		}
	}
}

// P2.2, R2, R5: b stays as it is, and what stands behind its end counts for
// nothing.
func TestSumNeitherChangesNorReadsBeyond(t *testing.T) {
	for _, n := range []int{0, 1, 55, 56, 63, 64, 65, 128, 150} {
		whole := ramp(300)
		before := slices.Clone(whole)
		if got, want := sha.Sum(whole[:n]), api.Sum(sha256.Sum256(before[:n])); got != want {
			t.Errorf("Sum of %d of 300 bytes = %s, want %s", n, hexOf(got), hexOf(want))
		}
		if !bytes.Equal(whole, before) {
			t.Errorf("Sum of %d of 300 bytes changed them", n)
		}
	}
}

func TestSumAnswersTheSameTwice(t *testing.T) {
	b := ramp(100)
	first := sha.Sum(b)
	sha.Sum(ramp(77))
	if sha.Sum(b) != first {
		t.Error("Sum of the same bytes answers another value later")
	}
}

// P2.3.

func TestNewHasReceivedNothing(t *testing.T) {
	check(t, sha.New(), nil)
}

func TestWriteAppends(t *testing.T) {
	for _, c := range []struct {
		name  string
		sizes []int
	}{
		{"nothing", []int{0}},
		{"nothing, often", []int{0, 0, 0}},
		{"one piece", []int{3}},
		{"an empty piece first", []int{0, 3}},
		{"an empty piece between", []int{3, 0, 4}},
		{"an empty piece last", []int{64, 0}},
		{"an empty piece at a block's end", []int{64, 0, 1}},
		{"up to a block's end", []int{10, 54}},
		{"up to a block's end, and on", []int{10, 54, 7}},
		{"one byte before a block's end, and on", []int{63, 1, 1}},
		{"across a block's end", []int{10, 55}},
		{"across two blocks' ends", []int{10, 120}},
		{"up to the second block's end", []int{10, 118, 1}},
		{"whole blocks", []int{64, 64, 128}},
		{"whole blocks in the midst", []int{1, 63, 64, 64, 5}},
		{"about the length's place", []int{55, 1, 1}},
		{"about the length's place in the second block", []int{64, 55, 1, 1}},
	} {
		t.Run(c.name, func(t *testing.T) {
			h, received := sha.New(), ramp(0)
			for _, size := range c.sizes {
				piece := ramp(len(received) + size)[len(received):]
				h.Write(piece)
				received = append(received, piece...)
				check(t, h, received)
			}
		})
	}
}

// A Sum asked on the way must not close the Hash, at no place within a block.
func TestSumOnTheWayAndTwice(t *testing.T) {
	all := ramp(200)
	asked, silent := sha.New(), sha.New()
	for i := range all {
		first := asked.Sum()
		if asked.Sum() != first || asked.Len() != i {
			t.Errorf("the second Sum behind %d bytes differs from the first", i)
		}
		asked.Write(all[i : i+1])
		silent.Write(all[i : i+1])
	}
	check(t, asked, all)
	check(t, silent, all)
}

func TestLenCountsWithoutASum(t *testing.T) {
	h, want := sha.New(), 0
	for _, size := range []int{0, 1, 62, 1, 64, 0, 65, 1000, 7} {
		h.Write(ramp(size))
		want += size
		if got := h.Len(); got != want {
			t.Errorf("Len() = %d, want %d", got, want)
		}
	}
}

func TestWriteDoesNotKeepItsPieces(t *testing.T) {
	all := ramp(200)
	for _, size := range []int{1, 30, 63, 64, 65, 100, 200} {
		h, own := sha.New(), make([]byte, size)
		for at := 0; at < len(all); at += size {
			piece := own[:copy(own, all[at:])]
			h.Write(piece)
			clear(piece)
			check(t, h, all[:at+len(piece)])
		}
	}
}

func TestWriteNeitherChangesNorReadsBeyond(t *testing.T) {
	for _, n := range []int{0, 1, 55, 63, 64, 65, 130} {
		whole := ramp(300)
		before := slices.Clone(whole)
		h := written(whole[:n])
		check(t, h, before[:n])
		if !bytes.Equal(whole, before) {
			t.Errorf("Write of %d of 300 bytes changed them", n)
		}
		check(t, written(whole[:n], whole[n:]), before)
	}
}

func TestHashesAreApart(t *testing.T) {
	x, y := sha.New(), sha.New()
	var inX, inY []byte
	for i := range 150 {
		x.Write([]byte{byte(i)})
		inX = append(inX, byte(i))
		y.Write([]byte{byte(2 * i), 9})
		inY = append(inY, byte(2*i), 9)
		sha.Sum(ramp(i))
		check(t, x, inX)
		check(t, y, inY)
	}
	check(t, sha.New(), nil)
}

// P2.4.

func TestTheSameBytesInTwoAndThreePieces(t *testing.T) {
	all := ramp(150)
	want := sha.Sum(all)
	for i := 0; i <= len(all); i++ {
		for j := i; j <= len(all); j++ {
			h := written(all[:i], all[i:j], all[j:])
			if h.Sum() != want || h.Len() != len(all) {
				t.Fatalf("cut at %d and %d: Sum() = %s, want %s", i, j, hexOf(h.Sum()), hexOf(want))
			}
		}
	}
}

func TestTheSameBytesInPiecesOfOneSize(t *testing.T) {
	all := ramp(1000)
	for size := 1; size <= 200; size++ {
		check(t, written(slices.Collect(slices.Chunk(all, size))...), all)
	}
}

func TestTheSameBytesInPiecesOfAnySize(t *testing.T) {
	draw := rand.New(rand.NewSource(2))
	for range 300 {
		all := ramp(draw.Intn(700))
		h := sha.New()
		for at := 0; at < len(all); {
			to := min(at+draw.Intn(140), len(all))
			h.Write(all[at:to])
			at = to
			if draw.Intn(4) == 0 {
				check(t, h, all[:at])
			}
		}
		check(t, h, all)
		if h.Sum() != sha.Sum(all) {
			t.Errorf("%d bytes in pieces and as a whole differ", len(all))
		}
	}
}

func BenchmarkSum(b *testing.B) {
	message := ramp(4096)
	b.SetBytes(int64(len(message)))
	for b.Loop() {
		sha.Sum(message)
	}
}
