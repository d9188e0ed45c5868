package lock_test

import (
	"testing"

	"jobber/lock"
)

// P18.2 and P18.3: when a lock is closed, until when, and what counts.

func TestTheNumberBehindEachWrongAnswer(t *testing.T) {
	for _, tries := range tries() {
		closed(t, tries, 10, 0)
		closed(t, tries, 10, 77)
	}
}

// fewerThan is a lock with one wrong answer fewer than would close it.
func fewerThan(t *testing.T, tries, ticks, at int) *lock.Lock {
	t.Helper()
	l := made(t, tries, ticks)
	for range tries - 1 {
		l.Failed(at)
	}
	holdWrong(t, l, tries-1)
	return l
}

func TestOneWrongAnswerFewerThanTries(t *testing.T) {
	for _, tries := range tries() {
		for _, ticks := range ticks() {
			for _, at := range []int{0, 7, mostTick} {
				l := fewerThan(t, tries, ticks, at)
				holdOpenAlways(t, l)
				holdOpen(t, l, at)
				l.Failed(at)
				holdWrong(t, l, tries)
				holdClosed(t, l, at+ticks)
			}
		}
	}
}

// Each tick around the one at which it opens.
func TestEachTickOfALock(t *testing.T) {
	for _, tries := range []int{1, 2, 3, 7} {
		for _, ticks := range []int{1, 2, 3, 10} {
			for at := range 5 {
				l := closed(t, tries, ticks, at)
				for now := range at + 3*ticks {
					if got := l.Locked(now); got != (now < at+ticks) {
						t.Error(tries, ticks, at, now, got)
					}
				}
				holdWrong(t, l, tries)
			}
		}
	}
}

// The lock is closed from the time of the last wrong answer on, not of another.
func TestTheLastWrongAnswerCloses(t *testing.T) {
	l := made(t, 3, 10)
	fail(t, l, 3, 0, 100, 250)
	holdClosed(t, l, 260)
	l = made(t, 3, 10)
	fail(t, l, 3, 250, 0, 100)
	holdClosed(t, l, 110)
	l = made(t, 3, 10)
	fail(t, l, 3, 250, 100, 0)
	holdClosed(t, l, 10)
}

func TestWrongAnswersFarApartCountAlike(t *testing.T) {
	l := made(t, 4, 10)
	fail(t, l, 4, 0, 1000, 1<<33, mostTick-10)
	holdClosed(t, l, mostTick)
	holdLocked(t, l, 0, 1000, 1<<33, mostTick-10, mostTick-1)
	holdOpen(t, l, mostTick)
}

func TestWrongAnswersOfAClosedLock(t *testing.T) {
	for _, tries := range []int{1, 2, 3, 1000} {
		for _, ticks := range []int{1, 2, 10, 1 << 33} {
			for _, at := range []int{0, 1, 77} {
				until := at + ticks
				l := closed(t, tries, ticks, at)
				holdDeaf(t, l, tries, until, at, at, until-1, 0, at/2, until-1, at)
				for range tries + 2 {
					l.Failed(until - 1)
				}
				holdDeaf(t, l, tries, until, until-1)
			}
		}
	}
}

// The count begins anew just when the lock opens, and later.
func TestTheCountBeginsAnew(t *testing.T) {
	for _, ticks := range []int{1, 2, 10, 1 << 33} {
		for _, at := range []int{0, 1, 77} {
			for _, later := range []int{0, 1, 5, 10, 1000, 1 << 34} {
				until := at + ticks
				for _, tries := range []int{2, 3, 1000} {
					l := closed(t, tries, ticks, at)
					l.Failed(until + later)
					holdWrong(t, l, 1)
					holdOpenAlways(t, l)
					holdOpen(t, l, at, until-1, until, until+later)
				}
				// With one try, the first wrong answer closes it again.
				l := closed(t, 1, ticks, at)
				l.Failed(until + later)
				holdWrong(t, l, 1)
				holdClosed(t, l, until+later+ticks)
			}
		}
	}
}

func TestASecondAndAThirdLock(t *testing.T) {
	l := made(t, 2, 10)
	fail(t, l, 2, 0, 3)
	holdClosed(t, l, 13)
	holdDeaf(t, l, 2, 13, 12)
	fail(t, l, 2, 13, 20)
	holdClosed(t, l, 30)
	holdDeaf(t, l, 2, 30, 20, 29, 13, 0)
	fail(t, l, 2, 1000, 1001)
	holdClosed(t, l, 1011)
	holdDeaf(t, l, 2, 1011, 1010, 30)
	fail(t, l, 2, 1011)
	holdOpenAlways(t, l)
	for _, tries := range []int{1, 2, 3, 50} {
		l := made(t, tries, 10)
		for now := 0; now < 100; now += 10 {
			for range tries {
				fail(t, l, tries, now)
			}
			holdDeaf(t, l, tries, now+10, now, now+9)
		}
	}
}

func TestAtEarlierTimes(t *testing.T) {
	// Not yet closed: it counts, and closes until an earlier time.
	l := made(t, 2, 10)
	fail(t, l, 2, 50, 20)
	holdClosed(t, l, 30)
	// Closed: nothing changes at an earlier time, however early.
	holdDeaf(t, l, 2, 30, 29, 19, 0)
	// Open again: it counts anew, and closes at times before the first lock, too.
	fail(t, l, 2, 60, 5)
	holdClosed(t, l, 15)
	fail(t, l, 2, 15, 15)
	holdClosed(t, l, 25)
	// With one try, the lock is closed at all times before it opens.
	l = closed(t, 1, 10, 50)
	holdDeaf(t, l, 1, 60, 40, 0, 50, 59)
	fail(t, l, 1, 60)
	holdClosed(t, l, 70)
}

func TestALockThatOpensBeyondTheEndOfTime(t *testing.T) {
	for _, tries := range []int{1, 2, 3, mostTries} {
		for _, ticks := range []int{1, 2, 10, mostTick - 1, mostTick} {
			l := closed(t, tries, ticks, mostTick)
			holdLocked(t, l, 0, 1, mostTick-1, mostTick)
			holdDeaf(t, l, tries, mostTick+ticks, 0, mostTick-1, mostTick)
			holdLocked(t, l, 0, 1, mostTick-1, mostTick)
			l.Clear()
			holdWrong(t, l, 0)
			holdOpenAlways(t, l)
		}
		l := closed(t, tries, mostTick, 1)
		holdLocked(t, l, 0, 1, mostTick)
		l = closed(t, tries, mostTick, 0)
		holdLocked(t, l, 0, 1, mostTick-1)
		holdOpen(t, l, mostTick)
		l = closed(t, tries, 10, mostTick-10)
		holdLocked(t, l, mostTick-1)
		holdOpen(t, l, mostTick)
		l = closed(t, tries, 11, mostTick-10)
		holdLocked(t, l, mostTick)
	}
}

func TestAskingChangesNothing(t *testing.T) {
	asked, quiet := made(t, 3, 4), made(t, 3, 4)
	for now := range 60 {
		for range 10 {
			asked.Locked(0)
			asked.Locked(now)
			asked.Locked(now + 4)
			asked.Locked(mostTick)
			asked.Wrong()
		}
		asked.Failed(now)
		quiet.Failed(now)
		for at := range 80 {
			if asked.Locked(at) != quiet.Locked(at) {
				t.Fatal(now, at)
			}
		}
		holdWrong(t, asked, quiet.Wrong())
	}
}

// All calls end without a panic, and what is counted stays within its bounds.
func TestOtherTimes(t *testing.T) {
	times := append(far(), -1, mostTick+1, -mostTick)
	for _, tries := range []int{1, 2, 3, mostTries} {
		for _, ticks := range []int{1, 10, mostTick} {
			for _, first := range times {
				l := made(t, tries, ticks)
				wrong := 0
				for _, now := range append([]int{first}, times...) {
					was := l.Locked(now)
					l.Failed(now)
					got := l.Wrong()
					if was && got != wrong || !was && got != wrong%tries+1 {
						t.Fatal(tries, ticks, first, now, was, got)
					}
					wrong = got
				}
				l.Clear()
				holdWrong(t, l, 0)
				holdOpen(t, l, times...)
			}
		}
	}
}
