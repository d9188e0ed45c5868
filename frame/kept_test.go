package frame

import (
	"runtime"
	"testing"
)

func TestOnlyWhatIsLeftIsKept(t *testing.T) {
	d := New()
	d.Feed([]byte{0, 1, 'a', 0, 3, 'b'})
	if string(d.left) != "\x00\x03b" || cap(d.left) > 64 {
		t.Errorf("% x is kept, in memory of %d", d.left, cap(d.left))
	}
	d.Feed([]byte{'c', 'd'})
	if len(d.left) != 0 || d.bad {
		t.Errorf("% x is kept", d.left)
	}
}

func TestABadDeframerKeepsNoBytes(t *testing.T) {
	d := New()
	d.Feed([]byte{0, 3, 'a'})
	d.Feed([]byte{'b', 'c', 0, 0, 'd'})
	d.Feed([]byte("more"))
	if !d.bad || cap(d.left) != 0 {
		t.Errorf("% x is kept", d.left)
	}
}

// The few bytes left of a great piece must not hold the memory of all of it.
func TestTheMemoryOfAPieceIsNotKept(t *testing.T) {
	const frames = 1 << 16
	d := New()
	before := heap()
	feedMany(d, frames)
	if grown := heap() - before; grown > frames*64 {
		t.Errorf("%d bytes more are held behind Feed", grown)
	}
	if d.Left() != 3 {
		t.Errorf("%d bytes are left", d.Left())
	}
}

// feedMany is a function of its own so that its piece is gone behind it.
func feedMany(d *Deframer, frames int) {
	body := make([]byte, 256)
	var piece []byte
	for range frames {
		piece = append(piece, Put(body)...)
	}
	d.Feed(append(piece, 0, 3, 'a'))
}

// heap is the number of bytes that are still in use.
func heap() int64 {
	runtime.GC()
	runtime.GC()
	var m runtime.MemStats
	runtime.ReadMemStats(&m)
	return int64(m.HeapAlloc)
}
