package msg_test

import (
	"encoding/binary"
	"math"
	"reflect"
	"slices"
	"testing"

	"jobber/api"
)

// field is a number of a command or of a note, as the document has it: how
// many bytes it takes, and which values are valid.
type field struct {
	name        string
	size        int
	least, most int
}

func word(name string) field { return field{name, 4, 0, 1 << 30} }

func octet(name string, least, most int) field { return field{name, 1, least, most} }

func inst() field { return octet("Inst", 0, 7) }

func trader() field { return octet("Trader", 0, 31) }

func free(name string) field { return octet(name, 0, 255) }

// layout is what the comment of a kind says. A sum stands alone in its kind.
type layout struct {
	name   string
	kind   int
	fields []field
	sum    bool
}

func (l layout) names(name string) bool {
	return slices.ContainsFunc(l.fields, func(f field) bool { return f.name == name })
}

func commands() []layout {
	return []layout{
		{name: "CHello", kind: 1, fields: []field{trader()}},
		{name: "CAnswer", kind: 2, sum: true},
		{name: "CNew", kind: 3, fields: []field{word("Seq"), inst(), word("Id"), free("Side"), free("Order"),
			word("Price"), word("Qty"), word("Show"), word("Stop")}},
		{name: "CCancel", kind: 4, fields: []field{word("Seq"), inst(), word("Id"), trader()}},
		{name: "CAmend", kind: 5, fields: []field{word("Seq"), inst(), word("Id"), word("Price"), word("Qty")}},
		{name: "CMass", kind: 6, fields: []field{word("Seq"), octet("Inst", 0, 8), octet("What", 1, 3)}},
		{name: "CBeat", kind: 7},
		{name: "CBye", kind: 8},
		{name: "CAdmin", kind: 9, fields: []field{word("Seq"), octet("What", 1, 9), free("A"), free("B")}},
	}
}

func notes() []layout {
	return []layout{
		{name: "NChallenge", kind: 1, sum: true},
		{name: "NWelcome", kind: 2},
		{name: "NAck", kind: 3, fields: []field{word("Seq")}},
		{name: "NReject", kind: 4, fields: []field{word("Seq"), free("Err")}},
		{name: "NExec", kind: 5, fields: []field{free("Inst"), word("Id"), word("No"), word("Price"), word("Qty"), word("Left")}},
		{name: "NGone", kind: 6, fields: []field{free("Inst"), word("Id"), word("Left")}},
		{name: "NTrade", kind: 7, fields: []field{free("Inst"), word("No"), word("Price"), word("Qty")}},
		{name: "NDepth", kind: 8, fields: []field{free("Inst"), free("Side"), word("Price"), word("Qty")}},
		{name: "NBye", kind: 9},
	}
}

// numbers names the fields of a struct that hold a number, but for its kind.
func numbers(v any) []string {
	var out []string
	t := reflect.TypeOf(v)
	for i := range t.NumField() {
		if f := t.Field(i); f.Name != "Kind" && f.Type.Kind() == reflect.Int {
			out = append(out, f.Name)
		}
	}
	return out
}

func number(v any, name string) int {
	return int(reflect.ValueOf(v).FieldByName(name).Int())
}

// with is v with one of its numbers set.
func with[T any](v T, name string, n int) T {
	reflect.ValueOf(&v).Elem().FieldByName(name).SetInt(int64(n))
	return v
}

// encode is the encoding by the library, whether v is valid or not.
func encode(l layout, v any, sum api.Sum) []byte {
	b := []byte{byte(l.kind)}
	for _, f := range l.fields {
		n := number(v, f.name)
		if f.size == 1 {
			b = append(b, byte(n))
		} else {
			b = binary.BigEndian.AppendUint32(b, uint32(n))
		}
	}
	if l.sum {
		b = append(b, sum[:]...)
	}
	return b
}

// decode is P6.3 worked out from the layouts.
func decode(b []byte) (api.Cmd, bool) {
	for _, l := range commands() {
		if len(b) != size(l) || int(b[0]) != l.kind {
			continue
		}
		c, at := api.Cmd{Kind: l.kind}, 1
		if l.sum {
			copy(c.Tag[:], b[at:])
		}
		for _, f := range l.fields {
			n := 0
			for _, x := range b[at : at+f.size] {
				n = n*256 + int(x)
			}
			if n < f.least || n > f.most {
				return api.Cmd{}, false
			}
			c = with(c, f.name, n)
			at += f.size
		}
		return c, true
	}
	return api.Cmd{}, false
}

func size(l layout) int {
	n := 1
	for _, f := range l.fields {
		n += f.size
	}
	if l.sum {
		n += 32
	}
	return n
}

// sumFrom is a sum in which a lost or moved byte shows.
func sumFrom(first byte) api.Sum {
	var s api.Sum
	for i := range s {
		s[i] = first + byte(i)
	}
	return s
}

// filled is a command of a kind whose fields all have the value that pick
// takes out of their range.
func filled(l layout, pick func(f field) int) api.Cmd {
	c := api.Cmd{Kind: l.kind}
	for _, f := range l.fields {
		c = with(c, f.name, pick(f))
	}
	return c
}

func least(f field) int { return f.least }

func most(f field) int { return f.most }

// bases holds valid commands of a kind to change one field of.
func bases(l layout) []api.Cmd {
	low, high := filled(l, least), filled(l, most)
	middle := filled(l, func(f field) int { return f.least + (f.most-f.least)/2 })
	if l.sum {
		middle.Tag = sumFrom(1)
		for i := range high.Tag {
			high.Tag[i] = 255
		}
	}
	return []api.Cmd{low, middle, high}
}

// edges holds the numbers at which a field of some size may be taken wrongly:
// the ends of its own range, of a byte, of 32 bits and of an int.
func edges(f field) []int {
	out := []int{
		f.least - 1, f.least, f.least + 1, f.most - 1, f.most, f.most + 1,
		math.MinInt, math.MinInt + 1, math.MaxInt - 1, math.MaxInt,
	}
	for _, n := range []int{0, 1 << 7, 1 << 8, 1 << 15, 1 << 16, 1 << 20, 1 << 30, 1 << 31, 1 << 32, 1 << 40} {
		for d := -2; d <= 2; d++ {
			out = append(out, n+d, -n+d)
		}
	}
	// Each of these ends in the bytes of a valid number.
	for _, far := range []int{1 << 8, 1 << 16, 1 << 31, 1 << 32, 1 << 62} {
		out = append(out, far+f.least, far+f.most, -far+f.least, -far+f.most)
	}
	return out
}

// nothings holds kinds that are none; some of them end in the byte of one.
func nothings() []int {
	out := []int{0, 10, 11, 127, 128, 255, math.MaxInt, math.MinInt, math.MinInt + 1}
	for kind := range 11 {
		out = append(out, -1-kind, 256+kind, 1<<16+kind, 1<<32+kind, -256+kind, -1<<32+kind)
	}
	return out
}

// The layouts must name every field somewhere, and know the kinds as api does.
func TestTheLayoutsAreComplete(t *testing.T) {
	for _, c := range []struct {
		of      any
		layouts []layout
		last    int
	}{
		{api.Cmd{}, commands(), api.CAdmin},
		{api.Note{}, notes(), api.NBye},
	} {
		if len(c.layouts) != c.last {
			t.Errorf("%d layouts, want %d", len(c.layouts), c.last)
		}
		for i, l := range c.layouts {
			if l.kind != i+1 {
				t.Errorf("%s is of kind %d, want %d", l.name, l.kind, i+1)
			}
		}
		for _, name := range numbers(c.of) {
			if !slices.ContainsFunc(c.layouts, func(l layout) bool { return l.names(name) }) {
				t.Errorf("no layout of %T names %s", c.of, name)
			}
		}
	}
}
