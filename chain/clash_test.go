package chain

import (
	"bytes"
	"go/ast"
	"go/parser"
	"go/printer"
	"go/token"
	"slices"
	"strings"
	"testing"

	"jobber/api"
)

// weak is a way to link that gives many inputs one link.
type weak struct {
	name string
	link func(prev api.Sum, b []byte) api.Sum
}

func (w weak) links(l [][]byte) []api.Sum {
	var out []api.Sum
	var prev api.Sum
	for _, b := range l {
		prev = w.link(prev, b)
		out = append(out, prev)
	}
	return out
}

func total(b []byte) int {
	n := 0
	for _, c := range b {
		n += int(c)
	}
	return n
}

func weakWays() []weak {
	return []weak{
		{"one link for all", func(api.Sum, []byte) api.Sum { return api.Sum{7} }},
		{"a zero Sum for all", func(api.Sum, []byte) api.Sum { return api.Sum{} }},
		{"the length alone", func(_ api.Sum, b []byte) api.Sum { return api.Sum{31: byte(len(b))} }},
		{"the link before alone", func(prev api.Sum, _ []byte) api.Sum { return api.Sum{prev[0] + 1} }},
		{"the bytes alone", func(_ api.Sum, b []byte) api.Sum { return api.Sum{byte(total(b))} }},
		{"two links", func(prev api.Sum, b []byte) api.Sum { return api.Sum{16: (prev[16] + byte(total(b))) % 2} }},
		{"three links", func(prev api.Sum, b []byte) api.Sum {
			return api.Sum{(prev[0]*2 + byte(total(b)+len(b))) % 3}
		}},
	}
}

// sequences holds all of at most three records out of four.
func sequences() [][][]byte {
	all := [][][]byte{nil}
	for start := 0; len(all[start]) < 3; start++ {
		for _, s := range []string{"", "a", "b", "aa"} {
			all = append(all, append(slices.Clone(all[start]), []byte(s)))
		}
	}
	return all
}

// input is what a link is made of; the bytes stand in a string, so that two
// inputs can be compared.
type input struct {
	prev api.Sum
	b    string
}

func inputs(l [][]byte, links []api.Sum) []input {
	var out []input
	for i, b := range l {
		in := input{b: string(b)}
		if i > 0 {
			in.prev = links[i-1]
		}
		out = append(out, in)
	}
	return out
}

// P4.3 as it is written: of all indexes at which the links are the same and
// what they are made of is not, the least.
func TestFirstClashIsTheFirst(t *testing.T) {
	for _, w := range weakWays() {
		for _, a := range sequences() {
			for _, b := range sequences() {
				aLinks, bLinks := w.links(a), w.links(b)
				aInputs, bInputs := inputs(a, aLinks), inputs(b, bLinks)
				want := -1
				for i := min(len(a), len(b)) - 1; i >= 0; i-- {
					if aLinks[i] == bLinks[i] && aInputs[i] != bInputs[i] {
						want = i
					}
				}
				if got := firstClash(a, b, aLinks, bLinks); got != want {
					t.Fatalf("%s: the clash of %q and %q = %d, want %d", w.name, a, b, got, want)
				}
			}
		}
	}
}

// P4.4, for links of which nothing is assumed.
func TestTheSameLastLinkMeansEqualOrAClash(t *testing.T) {
	for _, w := range weakWays() {
		clashes := 0
		for _, a := range sequences() {
			for _, b := range sequences() {
				aLinks, bLinks := w.links(a), w.links(b)
				if len(a) == 0 || len(a) != len(b) || aLinks[len(a)-1] != bLinks[len(b)-1] {
					continue
				}
				at := firstClash(a, b, aLinks, bLinks)
				if equal := slices.EqualFunc(a, b, bytes.Equal); equal != (at == -1) {
					t.Fatalf("%s: %q and %q have one last link, and the clash is %d", w.name, a, b, at)
				}
				if at == -1 {
					continue
				}
				clashes++
				if aLinks[at] != bLinks[at] || inputs(a, aLinks)[at] == inputs(b, bLinks)[at] {
					t.Fatalf("%s: %q and %q do not clash at %d", w.name, a, b, at)
				}
			}
		}
		if clashes == 0 {
			t.Errorf("%s: nothing clashes, so nothing was tried", w.name)
		}
	}
}

// P4.3, case by case: the links are written out, one digit each.
func TestFirstClashByLinksWrittenOut(t *testing.T) {
	for _, c := range []struct {
		name           string
		a, b           string
		aLinks, bLinks string
		want           int
	}{
		{"all equal", "xyz", "xyz", "123", "123", -1},
		{"all apart", "xyz", "abc", "123", "456", -1},
		{"other records, the first link the same", "xyz", "ayz", "123", "123", 0},
		{"other records, the second link the same", "xyz", "xaz", "123", "123", 1},
		{"other records, the last link the same", "xyz", "xya", "123", "123", 2},
		{"the same record behind links that differ", "xyz", "ayz", "123", "423", 1},
		{"the same record behind links that differ, later", "xyz", "abz", "123", "453", 2},
		{"another record behind links that differ", "xyz", "abc", "123", "453", 2},
		{"apart to the end", "xyz", "ayz", "123", "456", -1},
		{"two clashes", "xyz", "abc", "123", "123", 0},
		{"two clashes, with links that differ between", "wxyz", "abcz", "1234", "1534", 0},
		{"a zero Sum as the first link", "x", "a", "0", "0", 0},
		{"a zero Sum before both", "xy", "xa", "01", "01", 1},
		{"one begins with the other", "xyz", "xy", "123", "12", -1},
		{"a clash in the shorter one's last record", "xyz", "xa", "123", "12", 1},
		{"apart up to the shorter one's end", "xyz", "ab", "123", "45", -1},
		{"nothing and something", "", "x", "", "1", -1},
		{"nothing and nothing", "", "", "", "", -1},
	} {
		a, b := split(c.a), split(c.b)
		aLinks, bLinks := digits(c.aLinks), digits(c.bLinks)
		if got := firstClash(a, b, aLinks, bLinks); got != c.want {
			t.Errorf("%s: %d, want %d", c.name, got, c.want)
		}
		if got := firstClash(b, a, bLinks, aLinks); got != c.want {
			t.Errorf("%s, turned round: %d, want %d", c.name, got, c.want)
		}
	}
}

// Every bit of a link counts: neither as the same link nor as the link before
// may one pass for another.
func TestFirstClashTellsEveryBitOfALink(t *testing.T) {
	a, b := split("xy"), split("ay")
	for bit := range 8 * api.Key {
		var turned api.Sum
		turned[bit/8] ^= 1 << (bit % 8)
		if got := firstClash(a, b, make([]api.Sum, 2), []api.Sum{turned, turned}); got != -1 {
			t.Errorf("links that differ in bit %d are taken for the same: %d", bit, got)
		}
		if got := firstClash(a, b, make([]api.Sum, 2), []api.Sum{turned, {}}); got != 1 {
			t.Errorf("links before that differ in bit %d are taken for the same: %d", bit, got)
		}
	}
}

func TestFirstClashTakesNilForEmpty(t *testing.T) {
	a, b := [][]byte{nil, {}, nil}, [][]byte{{}, nil, []byte("xyz")[:0]}
	if got := firstClash(a, b, digits("123"), digits("123")); got != -1 {
		t.Errorf("nil and empty records clash at %d", got)
	}
	if got := firstClash(a[:1], [][]byte{{0}}, digits("1"), digits("1")); got != 0 {
		t.Errorf("no byte and a nought clash at %d", got)
	}
}

// An answer of Clash alone cannot show that it goes by its own links, since
// none of them are known to clash. So its text is read.
func TestClashGoesByTheLinksOfBoth(t *testing.T) {
	files := token.NewFileSet()
	file, err := parser.ParseFile(files, "chain.go", nil, 0)
	if err != nil {
		t.Fatal(err)
	}
	for _, d := range file.Decls {
		f, ok := d.(*ast.FuncDecl)
		if !ok || f.Name.Name != "Clash" {
			continue
		}
		var text strings.Builder
		if err := printer.Fprint(&text, files, f.Body); err != nil {
			t.Fatal(err)
		}
		if got := strings.Join(strings.Fields(text.String()), " "); got != "{ return firstClash(a, b, Links(a), Links(b)) }" {
			t.Errorf("Clash is %s", got)
		}
		return
	}
	t.Error("there is no Clash")
}

// split makes a record of each letter.
func split(s string) [][]byte {
	var out [][]byte
	for i := range len(s) {
		out = append(out, []byte{s[i]})
	}
	return out
}

// digits makes a link of each digit; 0 is a zero Sum.
func digits(s string) []api.Sum {
	var out []api.Sum
	for i := range len(s) {
		out = append(out, api.Sum{31: s[i] - '0'})
	}
	return out
}
