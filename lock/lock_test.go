package lock_test

import (
	"math"
	"testing"

	"jobber/api"
	"jobber/lock"
)

// The limits are written out in these tests, so that they are not held against
// themselves: there are up to 1 << 20 tries, and ticks and a time up to 1 << 40.

const (
	mostTries = 1 << 20
	mostTick  = 1 << 40
)

// far holds numbers that are far off, at both ends, and some whose lowest bits
// are those of small ones.
func far() []int {
	all := []int{math.MinInt, math.MinInt + 1, math.MaxInt - 1, math.MaxInt}
	for _, n := range []int{0, 1, 5, 10} {
		for _, step := range []int{1 << 31, 1 << 32, 1 << 44, 1 << 62} {
			all = append(all, n+step, n-step)
		}
		all = append(all, math.MinInt+n, math.MaxInt-n)
	}
	return all
}

func made(t *testing.T, tries, ticks int) *lock.Lock {
	t.Helper()
	l, err := lock.New(tries, ticks)
	if l == nil || err != api.OK {
		t.Fatalf("New(%d, %d) = %v, %d", tries, ticks, l, err)
	}
	holdWrong(t, l, 0)
	return l
}

// holdWrong, holdLocked and holdOpen ask twice, since asking changes nothing.
func holdWrong(t *testing.T, l *lock.Lock, want int) {
	t.Helper()
	for range 2 {
		if got := l.Wrong(); got != want {
			t.Errorf("Wrong() = %d, not %d", got, want)
		}
	}
}

func holdLocked(t *testing.T, l *lock.Lock, times ...int) {
	t.Helper()
	for range 2 {
		for _, now := range times {
			if !l.Locked(now) {
				t.Errorf("Locked(%d) = false", now)
			}
		}
	}
}

func holdOpen(t *testing.T, l *lock.Lock, times ...int) {
	t.Helper()
	for range 2 {
		for _, now := range times {
			if l.Locked(now) {
				t.Errorf("Locked(%d) = true", now)
			}
		}
	}
}

// holdClosed holds that the lock opens at this time, and that it is closed at
// each time before.
func holdClosed(t *testing.T, l *lock.Lock, until int) {
	t.Helper()
	for _, before := range []int{1, 2, 10, 1000, until / 2, until} {
		if before > 0 && before <= until && until-before <= mostTick {
			holdLocked(t, l, until-before)
		}
	}
	for _, behind := range []int{0, 1, 2, 10, 1000, mostTick - until} {
		if behind >= 0 && until+behind <= mostTick {
			holdOpen(t, l, until+behind)
		}
	}
}

// holdOpenAlways holds that the lock is closed at no time.
func holdOpenAlways(t *testing.T, l *lock.Lock) {
	t.Helper()
	holdOpen(t, l, 0, 1, 2, 3, 9, 10, 11, 1000, mostTries, 1<<31, 1<<32, mostTick-1, mostTick)
}

// fail gives wrong answers at these times, and holds that each of them counts,
// and that the lock isn't closed behind any but the last try.
func fail(t *testing.T, l *lock.Lock, tries int, times ...int) {
	t.Helper()
	for _, now := range times {
		want := l.Wrong()%tries + 1
		l.Failed(now)
		holdWrong(t, l, want)
		if want < tries {
			holdOpen(t, l, 0, now, mostTick)
		}
	}
}

// holdDeaf holds that wrong answers at these times change nothing.
func holdDeaf(t *testing.T, l *lock.Lock, tries, until int, times ...int) {
	t.Helper()
	for _, now := range times {
		l.Failed(now)
		holdWrong(t, l, tries)
		holdClosed(t, l, until)
	}
}

// closed is a lock that is closed by as many wrong answers as it takes, all at
// this time.
func closed(t *testing.T, tries, ticks, at int) *lock.Lock {
	t.Helper()
	l := made(t, tries, ticks)
	for n := 1; n <= tries; n++ {
		if l.Locked(at) {
			t.Fatalf("New(%d, %d) is locked behind %d wrong answers", tries, ticks, n-1)
		}
		l.Failed(at)
		if l.Wrong() != n {
			t.Fatalf("New(%d, %d) has %d wrong answers, not %d", tries, ticks, l.Wrong(), n)
		}
	}
	holdClosed(t, l, at+ticks)
	return l
}

func TestTheLimits(t *testing.T) {
	if api.MaxTick != mostTick || api.OK != 0 || api.ErrArg != 1 {
		t.Error("the limits are others than these tests say")
	}
}

func TestTheChaptersExample(t *testing.T) {
	l := made(t, 2, 10)
	l.Failed(0)
	l.Failed(3)
	holdLocked(t, l, 3, 12)
	holdOpen(t, l, 13)
	l.Failed(13)
	holdWrong(t, l, 1)
}
