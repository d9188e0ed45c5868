package chain_test

import (
	"bytes"
	"crypto/sha256"
	"encoding/binary"
	"encoding/hex"
	"slices"
	"testing"

	"jobber/api"
	"jobber/chain"
	"jobber/sha"
	"jobber/wire"
)

// ramp is a run of bytes without a nought, in which a lost, moved or repeated
// byte shows.
func ramp(n int) []byte {
	b := make([]byte, n)
	for i := range b {
		b[i] = byte(1 + (i*7+i/64)%255)
	}
	return b
}

func rows(l ...string) [][]byte {
	var out [][]byte
	for _, s := range l {
		out = append(out, []byte(s))
	}
	return out
}

// someRows holds records of many lengths, two of them alike and two empty.
func someRows() [][]byte {
	return [][]byte{[]byte("a"), nil, ramp(64), []byte("a"), ramp(300), {0}, {}, ramp(27), ramp(28)}
}

func deepClone(l [][]byte) [][]byte {
	out := make([][]byte, len(l))
	for i, b := range l {
		out[i] = slices.Clone(b)
	}
	return out
}

func sameRows(a, b [][]byte) bool { return slices.EqualFunc(a, b, bytes.Equal) }

func hexOf(s api.Sum) string { return hex.EncodeToString(s[:]) }

// linkOf is the link by the library.
func linkOf(prev api.Sum, b []byte) api.Sum {
	h := sha256.New()
	h.Write(prev[:])
	h.Write(binary.BigEndian.AppendUint32(nil, uint32(len(b))))
	h.Write(b)
	return api.Sum(h.Sum(nil))
}

func linksOf(l [][]byte) []api.Sum {
	var out []api.Sum
	var prev api.Sum
	for _, b := range l {
		prev = linkOf(prev, b)
		out = append(out, prev)
	}
	return out
}

func somePrevs() []api.Sum {
	return []api.Sum{{}, {0: 1}, {31: 1}, api.Sum(ramp(32)), api.Sum(bytes.Repeat([]byte{0xff}, 32))}
}

// P4.1.

func TestLinksOfKnownBytes(t *testing.T) {
	for _, c := range []struct {
		prev api.Sum
		b    string
		want string
	}{
		{api.Sum{}, "", "6db65fd59fd356f6729140571b5bcd6bb3b83492a16e1bf0a3884442fc3c8a0e"},
		{api.Sum{}, "a", "27598abce977b88ab6016112a8767b2cdf3ae3f8d1187af80f324fcf09cc5419"},
		{api.Sum(bytes.Repeat([]byte{0xff}, 32)), "abc", "4be3132cb15a9b6bdfe09bf124548b529504300a360011ad8dc8bfb495c3bf2b"},
	} {
		if got := hexOf(chain.Link(c.prev, []byte(c.b))); got != c.want {
			t.Errorf("Link of %q = %s, want %s", c.b, got, c.want)
		}
	}
}

func TestLinkIsTheSumOfItsParts(t *testing.T) {
	for _, prev := range somePrevs() {
		for n := range 300 {
			b := ramp(n)
			got := chain.Link(prev, b)
			if got != linkOf(prev, b) {
				t.Errorf("Link of %d bytes = %s, want %s", n, hexOf(got), hexOf(linkOf(prev, b)))
			}
			if got != sha.Sum(slices.Concat(wire.U32(prev[:], uint32(n)), b)) {
				t.Errorf("Link of %d bytes is not sha.Sum of its parts", n)
			}
		}
	}
}

// Each of the four bytes of the length is in use.
func TestLinkOfLongRecords(t *testing.T) {
	for _, n := range []int{0xffff, 0x10000, 0x10203, 0xffffff, 0x1020304} {
		b := ramp(n)
		if got, want := chain.Link(api.Sum{5}, b), linkOf(api.Sum{5}, b); got != want {
			t.Errorf("Link of %d bytes = %s, want %s", n, hexOf(got), hexOf(want))
		}
	}
}

func TestEveryBitOfThePreviousLinkCounts(t *testing.T) {
	for _, prev := range somePrevs() {
		link := chain.Link(prev, []byte("x"))
		for bit := range 8 * len(prev) {
			other := prev
			other[bit/8] ^= 1 << (bit % 8)
			if chain.Link(other, []byte("x")) == link {
				t.Errorf("bit %d of %s does not count", bit, hexOf(prev))
			}
		}
	}
}

func TestEveryByteOfARecordCounts(t *testing.T) {
	for _, n := range []int{1, 27, 28, 29, 64, 92, 200} {
		link := chain.Link(api.Sum{}, ramp(n))
		for i := range n {
			b := ramp(n)
			b[i] ^= 0x80
			if chain.Link(api.Sum{}, b) == link {
				t.Errorf("byte %d of %d does not count", i, n)
			}
		}
		for _, b := range [][]byte{ramp(n)[:n-1], append(ramp(n), 0), append([]byte{0}, ramp(n)...)} {
			if chain.Link(api.Sum{}, b) == link {
				t.Errorf("%d bytes and %d have one link", n, len(b))
			}
		}
	}
}

// The length stands ahead of the bytes, so noughts alone are told apart too.
func TestLinkTellsNoughtsByTheirNumber(t *testing.T) {
	seen := map[api.Sum]int{}
	for n := range 200 {
		link := chain.Link(api.Sum{}, make([]byte, n))
		if before, ok := seen[link]; ok {
			t.Errorf("%d and %d noughts have one link", before, n)
		}
		seen[link] = n
	}
}

func TestLinkOfNilAndEmpty(t *testing.T) {
	for _, prev := range somePrevs() {
		for _, b := range [][]byte{nil, {}, ramp(70)[:0]} {
			if got := chain.Link(prev, b); got != linkOf(prev, nil) {
				t.Errorf("Link of no bytes = %s", hexOf(got))
			}
		}
	}
}

func TestLinkNeitherChangesNorReadsBeyondNorKeeps(t *testing.T) {
	for _, n := range []int{0, 1, 28, 64, 100} {
		prev, back := api.Sum(ramp(32)), ramp(200)
		first := chain.Link(prev, back[:n])
		if prev != api.Sum(ramp(32)) || !bytes.Equal(back, ramp(200)) {
			t.Errorf("Link of %d bytes has changed what was handed in", n)
		}
		clear(back[n:])
		if chain.Link(prev, back[:n]) != first {
			t.Errorf("the bytes behind %d bytes count", n)
		}
		clear(back)
		if chain.Link(prev, ramp(n)) != first {
			t.Errorf("Link has kept its %d bytes", n)
		}
	}
}

// P4.2: Links.

func TestLinksOfNoRecords(t *testing.T) {
	for _, l := range [][][]byte{nil, {}, someRows()[:0]} {
		if got := chain.Links(l); len(got) != 0 {
			t.Errorf("Links of no records = %v", got)
		}
	}
}

func TestLinksOfOneRecord(t *testing.T) {
	for _, b := range someRows() {
		got := chain.Links([][]byte{b})
		if len(got) != 1 || got[0] != chain.Link(api.Sum{}, b) || got[0] != linkOf(api.Sum{}, b) {
			t.Errorf("Links of one record of %d bytes = %v", len(b), got)
		}
	}
}

func TestLinksGoOnFromTheLinkBefore(t *testing.T) {
	l := someRows()
	got := chain.Links(l)
	if !slices.Equal(got, linksOf(l)) {
		t.Fatalf("Links = %v, want %v", got, linksOf(l))
	}
	for i := 1; i < len(l); i++ {
		if got[i] != chain.Link(got[i-1], l[i]) {
			t.Errorf("link %d is not the Link of the one before it and its record", i)
		}
	}
}

func TestLinksOfManyRecords(t *testing.T) {
	var l [][]byte
	for i := range 3000 {
		l = append(l, ramp(i%70))
	}
	if !slices.Equal(chain.Links(l), linksOf(l)) {
		t.Error("the links of 3000 records are wrong")
	}
}

// A record without bytes has a link of its own, another one at each place.
func TestLinksOfRecordsWithoutBytes(t *testing.T) {
	l := make([][]byte, 50)
	got := chain.Links(l)
	if len(got) != 50 || !slices.Equal(got, linksOf(l)) {
		t.Errorf("Links of 50 empty records = %v", got)
	}
	for i := range got {
		for j := range i {
			if got[i] == got[j] {
				t.Errorf("links %d and %d are the same", j, i)
			}
		}
	}
	for i := range l {
		l[i] = []byte{}
	}
	if !slices.Equal(chain.Links(l), got) {
		t.Error("nil and empty records have other links")
	}
}

func TestLinksOfABeginningAreTheBeginning(t *testing.T) {
	l := someRows()
	whole := chain.Links(l)
	for n := range len(l) + 1 {
		if !slices.Equal(chain.Links(l[:n]), whole[:n]) {
			t.Errorf("the links of the first %d records are not the first %d links", n, n)
		}
	}
}

// changedFrom holds that two lists of links part at index i and stay apart.
func changedFrom(t *testing.T, what string, x, y []api.Sum, i int) {
	t.Helper()
	if len(x) != len(y) {
		t.Fatalf("%s: %d links, not %d", what, len(y), len(x))
	}
	for j := range x {
		if (x[j] == y[j]) != (j < i) {
			t.Errorf("%s at %d: link %d is the same: %v", what, i, j, x[j] == y[j])
		}
	}
}

func TestEachRecordChangedInOneByte(t *testing.T) {
	links := chain.Links(someRows())
	for i, b := range someRows() {
		for at := range b {
			l := someRows()
			l[i][at] ^= 1
			changedFrom(t, "a changed byte", links, chain.Links(l), i)
			if got := chain.Check(l, links); got != i {
				t.Errorf("Check with byte %d of record %d changed = %d", at, i, got)
			}
			if got := chain.Clash(l, someRows()); got != -1 {
				t.Errorf("Clash with byte %d of record %d changed = %d", at, i, got)
			}
		}
		l := someRows()
		l[i] = append(l[i], 0)
		changedFrom(t, "one byte more", links, chain.Links(l), i)
		if got := chain.Check(l, links); got != i {
			t.Errorf("Check with one byte more in record %d = %d", i, got)
		}
	}
}

func TestRecordsThatChangedPlaces(t *testing.T) {
	links := chain.Links(someRows())
	for j := range links {
		for i := range j {
			l := someRows()
			l[i], l[j] = l[j], l[i]
			want := i
			if bytes.Equal(l[i], l[j]) {
				want = -1
			} else {
				changedFrom(t, "two that changed places", links, chain.Links(l), i)
			}
			if got := chain.Check(l, links); got != want {
				t.Errorf("Check with %d and %d in each other's place = %d, want %d", i, j, got, want)
			}
			if got := chain.Clash(someRows(), l); got != -1 {
				t.Errorf("Clash with %d and %d in each other's place = %d", i, j, got)
			}
		}
	}
}

// The same bytes, cut into records at other places, are other links.
func TestRecordsCutElsewhere(t *testing.T) {
	links := chain.Links(rows("ab", "c"))
	for _, l := range [][][]byte{rows("a", "bc"), rows("abc", ""), rows("", "abc")} {
		changedFrom(t, "another cut", links, chain.Links(l), 0)
		if got := chain.Check(l, links); got != 0 {
			t.Errorf("Check = %d", got)
		}
	}
}

func TestLinksAnswerNewMemory(t *testing.T) {
	for n := range len(someRows()) + 1 {
		l := someRows()[:n]
		first, second := chain.Links(l), chain.Links(l)
		whole := first[:cap(first)]
		for i := range whole {
			whole[i] = api.Sum{0x55}
		}
		if !sameRows(l[:cap(l)], someRows()) {
			t.Errorf("the links of %d records share memory with them", n)
		}
		if !slices.Equal(second, linksOf(l)) || !slices.Equal(chain.Links(l), second) {
			t.Errorf("two answers for %d records share memory", n)
		}
	}
}

func TestLinksDoNotKeepTheRecords(t *testing.T) {
	l := someRows()
	got := chain.Links(l)
	for i := range l {
		clear(l[i])
		l[i] = nil
	}
	if !slices.Equal(got, linksOf(someRows())) {
		t.Error("the links have changed with the records")
	}
	if !slices.Equal(chain.Links(someRows()), got) || !slices.Equal(chain.Links(l), linksOf(l)) {
		t.Error("a later call goes by earlier records")
	}
}

// P4.2: Check.

func TestCheckOfTheRightLinks(t *testing.T) {
	for n := range len(someRows()) + 1 {
		l := someRows()[:n]
		if got := chain.Check(l, chain.Links(l)); got != -1 {
			t.Errorf("Check of %d records with their links = %d", n, got)
		}
		if got := chain.Check(l, linksOf(l)); got != -1 {
			t.Errorf("Check of %d records with the library's links = %d", n, got)
		}
	}
	for _, l := range [][][]byte{nil, {}, someRows()[:0]} {
		for _, links := range [][]api.Sum{nil, {}, make([]api.Sum, 3)[:0]} {
			if got := chain.Check(l, links); got != -1 {
				t.Errorf("Check of nothing = %d", got)
			}
		}
	}
}

func TestCheckOfFewerOrMoreLinks(t *testing.T) {
	l, links := someRows(), chain.Links(someRows())
	for n := range len(l) + 1 {
		for m := range len(l) + 1 {
			want := min(n, m)
			if n == m {
				want = -1
			}
			if got := chain.Check(l[:n], links[:m]); got != want {
				t.Errorf("Check of %d records with %d links = %d, want %d", n, m, got, want)
			}
		}
	}
	// A zero Sum too much is an element that only one of them has.
	if got := chain.Check(l, append(slices.Clone(links), api.Sum{})); got != len(l) {
		t.Errorf("Check with a zero Sum too much = %d", got)
	}
	if got := chain.Check(nil, []api.Sum{{}}); got != 0 {
		t.Errorf("Check of no records with a zero Sum = %d", got)
	}
}

func TestCheckTellsEveryBitOfALink(t *testing.T) {
	l, links := someRows(), chain.Links(someRows())
	for i := range links {
		for bit := range 8 * api.Key {
			wrong := slices.Clone(links)
			wrong[i][bit/8] ^= 1 << (bit % 8)
			if got := chain.Check(l, wrong); got != i {
				t.Errorf("Check with bit %d of link %d changed = %d", bit, i, got)
			}
		}
	}
}

func TestCheckTellsTheFirstOfTwo(t *testing.T) {
	l, links := someRows(), chain.Links(someRows())
	for j := range links {
		for i := range j {
			wrong := slices.Clone(links)
			wrong[i][31] ^= 1
			wrong[j][0] ^= 0x80
			for _, c := range [][]api.Sum{wrong, wrong[:j], append(slices.Clone(wrong), api.Sum{})} {
				if got := chain.Check(l, c); got != i {
					t.Errorf("Check with %d and %d changed = %d", i, j, got)
				}
			}
			swapped := slices.Clone(links)
			swapped[i], swapped[j] = swapped[j], swapped[i]
			if got := chain.Check(l, swapped); got != i {
				t.Errorf("Check with links %d and %d in each other's place = %d", i, j, got)
			}
		}
	}
}

// What a later part of a chain is linked to is not a zero Sum.
func TestCheckOfALaterPart(t *testing.T) {
	l, links := someRows(), chain.Links(someRows())
	for i := 1; i < len(l); i++ {
		if got := chain.Check(l[i:], links[i:]); got != 0 {
			t.Errorf("Check from record %d on = %d", i, got)
		}
	}
}

func TestCheckNeitherChangesNorReadsBeyondNorKeeps(t *testing.T) {
	links := chain.Links(someRows())
	for n := range len(links) + 1 {
		l, own := someRows(), slices.Clone(links)
		for range 2 {
			if got := chain.Check(l[:n], own[:n]); got != -1 {
				t.Errorf("Check of %d records = %d", n, got)
			}
		}
		if !sameRows(l, someRows()) || !slices.Equal(own, links) {
			t.Errorf("Check of %d records has changed what was handed in", n)
		}
		clear(own)
		if got := chain.Check(l[:n], links[:n]); got != -1 {
			t.Errorf("Check of %d records again = %d", n, got)
		}
	}
}

// P4.3, as far as links of SHA-256 can show it; the rest stands in
// clash_test.go.

func TestClashOfASequenceWithItself(t *testing.T) {
	for n := range len(someRows()) + 1 {
		l := someRows()[:n]
		if got := chain.Clash(l, l); got != -1 {
			t.Errorf("Clash of %d records with themselves = %d", n, got)
		}
		if got := chain.Clash(l, deepClone(l)); got != -1 {
			t.Errorf("Clash of %d records with their copy = %d", n, got)
		}
	}
}

func TestClashTakesNilForEmpty(t *testing.T) {
	if got := chain.Clash([][]byte{nil, {}, []byte("x")}, [][]byte{{}, nil, []byte("x")}); got != -1 {
		t.Errorf("Clash of nil and empty records = %d", got)
	}
	for _, a := range [][][]byte{nil, {}, someRows()[:0]} {
		for _, b := range [][][]byte{nil, {}, {nil}, someRows()} {
			if chain.Clash(a, b) != -1 || chain.Clash(b, a) != -1 {
				t.Errorf("Clash of no records with %d is not -1", len(b))
			}
		}
	}
}

func TestClashOfSequencesOneOfWhichBeginsWithTheOther(t *testing.T) {
	l := someRows()
	for n := range len(l) + 1 {
		for m := range len(l) + 1 {
			if got := chain.Clash(l[:n], deepClone(l[:m])); got != -1 {
				t.Errorf("Clash of %d and %d records = %d", n, m, got)
			}
		}
	}
}

func TestClashNeitherChangesNorKeeps(t *testing.T) {
	for n := range len(someRows()) + 1 {
		a, b := someRows(), someRows()
		chain.Clash(a[:n], b)
		if !sameRows(a, someRows()) || !sameRows(b, someRows()) {
			t.Errorf("Clash of %d records has changed what was handed in", n)
		}
		for i := range a {
			clear(a[i])
		}
		if got := chain.Clash(someRows(), b); got != -1 {
			t.Errorf("Clash behind a Clash of other records = %d", got)
		}
	}
}

// P4.4: without a clash, the last link tells the sequence.
func TestTheLastLinkTellsTheSequence(t *testing.T) {
	all := [][][]byte{}
	for _, x := range []string{"", "\x00", "a", "ab"} {
		for _, y := range []string{"", "\x00", "b", "ab"} {
			for _, z := range []string{"", "c"} {
				all = append(all, rows(x, y, z))
			}
		}
	}
	for _, a := range all {
		for _, b := range all {
			same := chain.Links(a)[2] == chain.Links(b)[2]
			if same != sameRows(a, b) || chain.Clash(a, b) != -1 {
				t.Errorf("%q and %q: the same last link: %v, Clash = %d", a, b, same, chain.Clash(a, b))
			}
		}
	}
}

func TestTheChaptersExample(t *testing.T) {
	l := rows("first", "second", "third")
	links := chain.Links(l)
	if got := chain.Clash(l, l); got != -1 {
		t.Errorf("Clash of a sequence with itself = %d", got)
	}
	if got := chain.Check(l, links); got != -1 {
		t.Errorf("Check of a sequence with its Links = %d", got)
	}
	if got := chain.Check(l, links[:2]); got != 2 {
		t.Errorf("Check with the last link removed = %d", got)
	}
}
