package bucket_test

import (
	"math"
	"testing"

	"jobber/api"
	"jobber/bucket"
)

// The limits are written out in these tests, so that they are not held against
// themselves: a burst is up to 1 << 20, a rate and a time up to 1 << 40.

const (
	mostBurst = 1 << 20
	mostTick  = 1 << 40
)

// far holds numbers that are far off, at both ends, and some whose lowest bits
// are those of small ones.
func far() []int {
	all := []int{math.MinInt, math.MinInt + 1, math.MaxInt - 1, math.MaxInt}
	for _, n := range []int{0, 1, 5, 10} {
		for _, step := range []int{1 << 31, 1 << 32, 1 << 44, 1 << 62} {
			all = append(all, n+step, n-step)
		}
		all = append(all, math.MinInt+n, math.MaxInt-n)
	}
	return all
}

func made(t *testing.T, burst, rate int) *bucket.Bucket {
	t.Helper()
	b, err := bucket.New(burst, rate)
	if b == nil || err != api.OK {
		t.Fatalf("New(%d, %d) = %v, %d", burst, rate, b, err)
	}
	holdLeft(t, b, burst)
	return b
}

// holdLeft asks twice, since asking changes nothing.
func holdLeft(t *testing.T, b *bucket.Bucket, want int) {
	t.Helper()
	for range 2 {
		if got := b.Left(); got != want {
			t.Errorf("Left() = %d, not %d", got, want)
		}
	}
}

// step is a Take at a time, with what is left behind it.
type step struct {
	now  int
	ok   bool
	left int
}

// taken is a Take that leaves so many tokens, and none one that finds no token.
func taken(now, left int) step { return step{now, true, left} }

func none(now int) step { return step{now, false, 0} }

func holdStep(t *testing.T, b *bucket.Bucket, s step) {
	t.Helper()
	if got := b.Take(s.now); got != s.ok {
		t.Errorf("Take(%d) = %t, not %t", s.now, got, s.ok)
	}
	holdLeft(t, b, s.left)
}

func holdSteps(t *testing.T, b *bucket.Bucket, all ...step) {
	t.Helper()
	for _, s := range all {
		holdStep(t, b, s)
	}
}

func holdRun(t *testing.T, burst, rate int, all ...step) {
	t.Helper()
	holdSteps(t, made(t, burst, rate), all...)
	if t.Failed() {
		t.Fatalf("in a bucket of %d tokens, one for every %d ticks", burst, rate)
	}
}

// emptied is a bucket without a token, whose reference time is this.
func emptied(t *testing.T, burst, rate, at int) *bucket.Bucket {
	t.Helper()
	b := made(t, burst, rate)
	for left := burst - 1; left >= 0; left-- {
		if !b.Take(at) || b.Left() != left {
			t.Fatalf("New(%d, %d) has %d left at %d, not %d", burst, rate, b.Left(), at, left)
		}
	}
	return b
}

func TestTheLimits(t *testing.T) {
	if api.MaxTick != mostTick || api.OK != 0 || api.ErrArg != 1 {
		t.Error("the limits are others than these tests say")
	}
}

func TestTheChaptersExample(t *testing.T) {
	holdRun(t, 2, 10, taken(0, 1), taken(0, 0), none(0), none(9), taken(10, 0), none(10),
		taken(35, 1), taken(35, 0), none(35))
}
