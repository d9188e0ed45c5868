package mac_test

import (
	"bytes"
	"crypto/hmac"
	"crypto/sha256"
	"encoding/hex"
	"math/rand"
	"slices"
	"testing"

	"jobber/api"
	"jobber/mac"
	"jobber/sha"
)

// ramp is a run of bytes without a nought, in which a lost, moved or repeated
// byte shows.
func ramp(n int) []byte {
	b := make([]byte, n)
	for i := range b {
		b[i] = byte(1 + (i*7+i/64)%255)
	}
	return b
}

func hexOf(s api.Sum) string { return hex.EncodeToString(s[:]) }

// tagOf is the tag by the library.
func tagOf(key, b []byte) api.Sum {
	h := hmac.New(sha256.New, key)
	h.Write(b)
	return api.Sum(h.Sum(nil))
}

// check holds the tag that m gives b against that of the key.
func check(t *testing.T, m *mac.Mac, key, b []byte) {
	t.Helper()
	if got, want := m.Tag(b), tagOf(key, b); got != want {
		t.Errorf("key of %d bytes: Tag of %d bytes = %s, want %s", len(key), len(b), hexOf(got), hexOf(want))
	}
}

// P3.1.

func TestNewKeepsACopyOfTheKey(t *testing.T) {
	for _, n := range []int{1, 20, 32, 63, 64, 65, 131} {
		own, key := ramp(n), ramp(n)
		m := mac.New(own)
		clear(own)
		check(t, m, key, []byte("before the first Tag"))
		copy(own, bytes.Repeat([]byte{0xaa}, n))
		check(t, m, key, []byte("behind the first Tag"))
	}
}

func TestNewAndTagNeitherChangeNorReadBeyond(t *testing.T) {
	for _, n := range []int{0, 1, 32, 63, 64, 65, 100} {
		keys, message := ramp(200), ramp(300)
		m := mac.New(keys[:n])
		check(t, m, ramp(200)[:n], message[:n])
		if !bytes.Equal(keys, ramp(200)) {
			t.Errorf("a key of %d of 200 bytes has changed them", n)
		}
		if !bytes.Equal(message, ramp(300)) {
			t.Errorf("Tag of %d of 300 bytes has changed them", n)
		}
	}
}

// What stands behind a key of less than 64 bytes must not come into its pad.
func TestNewTakesNothingFromBehindTheKey(t *testing.T) {
	for n := range 66 {
		x, y := ramp(200), ramp(200)
		clear(y[n:])
		if mac.New(x[:n]).Tag(nil) != mac.New(y[:n]).Tag(nil) {
			t.Errorf("the bytes behind a key of %d bytes count", n)
		}
	}
}

// P3.2.

func TestTheChaptersExample(t *testing.T) {
	for _, c := range []struct{ key, b, want string }{
		{string(bytes.Repeat([]byte{0x0b}, 20)), "Hi There",
			"b0344c61d8db38535ca8afceaf0bf12b881dc200c9833da726e9376c2e32cff7"},
		{"Jefe", "what do ya want for nothing?",
			"5bdcc146bf60754e6a042426089575c75a003f089d2739839dec58b964ec3843"},
	} {
		if got := hexOf(mac.New([]byte(c.key)).Tag([]byte(c.b))); got != c.want {
			t.Errorf("key %q: Tag(%q) = %s, want %s", c.key, c.b, got, c.want)
		}
	}
}

// The further cases of RFC 4231 (but the fifth, whose tag is cut), and the tag
// of nothing by no key.
func TestTagsOfKnownBytes(t *testing.T) {
	counted := make([]byte, 25)
	for i := range counted {
		counted[i] = byte(i + 1)
	}
	long := bytes.Repeat([]byte{0xaa}, 131)
	for _, c := range []struct {
		name   string
		key, b []byte
		want   string
	}{
		{"case 3", bytes.Repeat([]byte{0xaa}, 20), bytes.Repeat([]byte{0xdd}, 50),
			"773ea91e36800e46854db8ebd09181a72959098b3ef8c122d9635514ced565fe"},
		{"case 4", counted, bytes.Repeat([]byte{0xcd}, 50),
			"82558a389a443c0ea4cc819899f2083a85f0faa3e578f8077a2e3ff46729665b"},
		{"case 6", long, []byte("Test Using Larger Than Block-Size Key - Hash Key First"),
			"60e431591ee0b67f0d8a26aacbf5b77f8e0bc6213728c5140546040f0ee37f54"},
		{"case 7", long, []byte("This is a test using a larger than block-size key and a larger than block-size data. The key needs to be hashed before being used by the HMAC algorithm."),
			"9b09ffa71b942fcb27635fbcd5b0e944bfdc63644f0713938a7f51535c3a35e2"},
		{"nothing", nil, nil,
			"b613679a0814d9ec772f95d778c35fc5ff1697c493715653c6c712144292c5ad"},
	} {
		if got := hexOf(mac.New(c.key).Tag(c.b)); got != c.want {
			t.Errorf("%s: %s, want %s", c.name, got, c.want)
		}
	}
}

func TestTagByKeysOfEveryLength(t *testing.T) {
	for n := range 200 {
		for _, key := range [][]byte{ramp(n), make([]byte, n), bytes.Repeat([]byte{0xff}, n)} {
			m := mac.New(key)
			for _, size := range []int{0, 1, 63, 64, 65} {
				check(t, m, key, ramp(size))
			}
		}
	}
}

func TestTagOfBytesOfEveryLength(t *testing.T) {
	for _, n := range []int{0, 1, 32, 63, 64, 65} {
		key := ramp(n)
		m := mac.New(key)
		for size := range 200 {
			check(t, m, key, ramp(size))
		}
	}
}

// P3.2 as it is written: the steps, by the project's own sums.
func TestTagIsTheTwoSums(t *testing.T) {
	for _, n := range []int{0, 1, 63, 64, 65, 128} {
		key, b := ramp(n), []byte("some bytes")
		k := slices.Clone(key)
		if n > 64 {
			sum := sha.Sum(key)
			k = sum[:]
		}
		k = append(k, make([]byte, 64-len(k))...)
		var inner, outer []byte
		for _, c := range k {
			inner, outer = append(inner, c^0x36), append(outer, c^0x5c)
		}
		sum := sha.Sum(append(inner, b...))
		if mac.New(key).Tag(b) != sha.Sum(append(outer, sum[:]...)) {
			t.Errorf("Tag by a key of %d bytes is not the two sums", n)
		}
	}
}

func TestEveryBitOfAKeyCounts(t *testing.T) {
	for _, n := range []int{1, 32, 63, 64, 65, 100} {
		tag := mac.New(ramp(n)).Tag([]byte("x"))
		for bit := range 8 * n {
			key := ramp(n)
			key[bit/8] ^= 1 << (bit % 8)
			m := mac.New(key)
			check(t, m, key, []byte("x"))
			if m.Tag([]byte("x")) == tag {
				t.Errorf("bit %d of a key of %d bytes does not count", bit, n)
			}
		}
	}
}

func TestNilAndEmptyAreTheSame(t *testing.T) {
	for _, key := range [][]byte{nil, {}, ramp(70)[:0]} {
		for _, b := range [][]byte{nil, {}, ramp(70)[:0]} {
			check(t, mac.New(key), nil, b)
		}
	}
}

// P3.3.

func TestEqualOfEqualTags(t *testing.T) {
	for _, a := range []api.Sum{{}, {0: 1}, {31: 0x80}, tagOf(nil, nil), api.Sum(bytes.Repeat([]byte{0xff}, 32))} {
		b := a
		if !mac.Equal(a, b) || !mac.Equal(a, a) {
			t.Errorf("Equal of %s and itself is false", hexOf(a))
		}
	}
}

func TestEqualTellsOneBitAtEveryPlace(t *testing.T) {
	for _, a := range []api.Sum{{}, tagOf(nil, nil), api.Sum(bytes.Repeat([]byte{0xff}, 32))} {
		for bit := range 8 * len(a) {
			b := a
			b[bit/8] ^= 1 << (bit % 8)
			if mac.Equal(a, b) || mac.Equal(b, a) {
				t.Errorf("Equal does not tell bit %d of %s", bit, hexOf(a))
			}
		}
	}
}

// Differences must be gathered so that none takes another one back: neither
// the same bits at two places nor ones that add up to 0.
func TestEqualTellsDifferencesAtTwoPlaces(t *testing.T) {
	a := tagOf(ramp(5), nil)
	for i := range a {
		for j := range i {
			for _, d := range [][2]byte{{1, 1}, {0xff, 0xff}, {0x80, 0x80}, {1, 0xff}, {0x55, 0xaa}} {
				b := a
				b[i] ^= d[0]
				b[j] ^= d[1]
				c := a
				c[i] += d[0]
				c[j] -= d[0]
				if mac.Equal(a, b) || mac.Equal(b, a) || mac.Equal(a, c) {
					t.Errorf("Equal does not tell %02x at %d and %02x at %d", d[0], i, d[1], j)
				}
			}
		}
	}
}

func TestEqualTellsDifferencesEverywhere(t *testing.T) {
	a := tagOf(nil, ramp(5))
	for d := 1; d < 256; d++ {
		b := a
		for i := range b {
			b[i] ^= byte(d)
		}
		if mac.Equal(a, b) {
			t.Errorf("Equal does not tell %02x at every place", d)
		}
	}
}

// The same bytes in another order are another tag.
func TestEqualTellsAnOrder(t *testing.T) {
	a := api.Sum(ramp(32))
	b := a
	slices.Reverse(b[:])
	if mac.Equal(a, b) {
		t.Error("Equal does not tell a tag from its reverse")
	}
}

// P3.4.

func TestTagAsksNothingButKeyAndBytes(t *testing.T) {
	draw := rand.New(rand.NewSource(3))
	keys := [][]byte{nil, ramp(1), ramp(32), ramp(63), ramp(64), ramp(65), ramp(130)}
	var macs []*mac.Mac
	for _, key := range keys {
		macs = append(macs, mac.New(key))
	}
	for range 2000 {
		i := draw.Intn(len(keys))
		b := ramp(draw.Intn(150))
		check(t, macs[i], keys[i], b)
	}
}

func TestTagAgainAndAgain(t *testing.T) {
	m, other := mac.New(ramp(32)), mac.New(ramp(33))
	first := m.Tag([]byte("a"))
	for i := range 100 {
		if m.Tag([]byte("a")) != first {
			t.Fatalf("the Tag asked again %d times is another one", i)
		}
		m.Tag(ramp(i))
		other.Tag([]byte("a"))
		mac.New(ramp(i)).Tag([]byte("a"))
	}
	if mac.New(ramp(32)).Tag([]byte("a")) != first {
		t.Error("two Macs of one key have two tags")
	}
}

func TestTagDoesNotKeepItsBytes(t *testing.T) {
	m, own := mac.New(ramp(32)), ramp(100)
	first := m.Tag(own)
	clear(own)
	if m.Tag(ramp(100)) != first {
		t.Error("bytes that their owner has cleared count for a later Tag")
	}
	check(t, m, ramp(32), own)
}

func TestNoughtsBehindAShortKey(t *testing.T) {
	for n := range 65 {
		b := []byte("x")
		tag := mac.New(ramp(n)).Tag(b)
		for total := n; total <= 64; total++ {
			key := append(ramp(n), make([]byte, total-n)...)
			if mac.New(key).Tag(b) != tag {
				t.Errorf("a key of %d bytes and %d noughts has another tag", n, total-n)
			}
		}
		key := append(ramp(n), make([]byte, 65-n)...)
		if mac.New(key).Tag(b) == tag {
			t.Errorf("a key of %d bytes has the tag of one of 65", n)
		}
	}
}

// Noughts before a key, or another byte behind it, are another key.
func TestOtherBytesAreAnotherKey(t *testing.T) {
	for n := 1; n < 64; n++ {
		tag := mac.New(ramp(n)).Tag(nil)
		before := append([]byte{0}, ramp(n)...)
		behind := append(ramp(n), 1)
		if mac.New(before).Tag(nil) == tag || mac.New(behind).Tag(nil) == tag {
			t.Errorf("a key of %d bytes and one byte more have one tag", n)
		}
	}
}

// A key of more than 64 bytes stands for its sum.
func TestALongKeyIsItsSum(t *testing.T) {
	for n := 65; n < 140; n++ {
		sum := sha.Sum(ramp(n))
		if mac.New(ramp(n)).Tag([]byte("x")) != mac.New(sum[:]).Tag([]byte("x")) {
			t.Errorf("a key of %d bytes and its sum have two tags", n)
		}
	}
}
