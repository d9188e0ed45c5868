// Package wire encodes and decodes the values that frames and records consist
// of. The promises P1.1 to P1.5 stand in the document's chapter 1.
package wire

import "jobber/api"

// longest is what the one length byte of a text can tell.
const longest = 255

// U8: P1.1.
func U8(b []byte, n int) []byte { return number(b, uint64(n), 1) }

// U32: P1.1.
func U32(b []byte, n uint32) []byte { return number(b, uint64(n), 4) }

// U64: P1.1.
func U64(b []byte, n uint64) []byte { return number(b, n, 8) }

// Text: P1.1.
func Text(b []byte, s string) []byte {
	s = s[:min(len(s), longest)]
	return append(U8(b, len(s)), s...)
}

// number copies b always: an append to b itself could write into memory that
// the caller still uses.
func number(b []byte, n uint64, size int) []byte {
	out := make([]byte, len(b), len(b)+size)
	copy(out, b)
	for left := size - 1; left >= 0; left-- {
		out = append(out, byte(n>>(8*left)))
	}
	return out
}

// Reader decodes one value behind another: P1.2 to P1.4. Being bad is kept in
// it, so that a caller may decode many values and ask once.
type Reader struct {
	b   []byte
	at  int
	bad bool
}

// Read: P1.2.
func Read(b []byte) *Reader {
	own := make([]byte, len(b))
	copy(own, b)
	return &Reader{b: own}
}

// U8: P1.3.
func (r *Reader) U8() int { return int(r.number(1)) }

// U32: P1.3.
func (r *Reader) U32() uint32 { return uint32(r.number(4)) }

// U64: P1.3.
func (r *Reader) U64() uint64 { return r.number(8) }

// Sum: P1.3.
func (r *Reader) Sum() api.Sum {
	var s api.Sum
	copy(s[:], r.take(len(s)))
	return s
}

// Text: P1.3.
func (r *Reader) Text(most int) string {
	start := r.at
	n := r.U8()
	if n > most {
		r.bad = true
	}
	s := string(r.take(n))
	if r.bad {
		// The length byte may be passed already, but the text begins at it.
		r.at = start
	}
	return s
}

// At: P1.2.
func (r *Reader) At() int { return r.at }

// Bad: P1.2.
func (r *Reader) Bad() bool { return r.bad }

// End: P1.4.
func (r *Reader) End() bool { return !r.bad && r.at == len(r.b) }

// number takes no bytes from a bad reader, so that it is 0 there.
func (r *Reader) number(size int) uint64 {
	var n uint64
	for _, c := range r.take(size) {
		n = n<<8 | uint64(c)
	}
	return n
}

// take hands out the reader's own memory, so that no byte is copied twice:
// callers copy it. It is the one place that finds bytes missing.
func (r *Reader) take(n int) []byte {
	if r.bad || n > len(r.b)-r.at {
		r.bad = true
		return nil
	}
	start := r.at
	r.at += n
	return r.b[start:r.at]
}
