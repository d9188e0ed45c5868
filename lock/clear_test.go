package lock_test

import "testing"

// P18.3 of Clear, with what Locked and Failed answer behind it.

func TestClearOfANewLock(t *testing.T) {
	for _, tries := range []int{1, 2, 3} {
		l := made(t, tries, 10)
		for range 3 {
			l.Clear()
			holdWrong(t, l, 0)
			holdOpenAlways(t, l)
		}
		for range tries {
			fail(t, l, tries, 5)
		}
		holdClosed(t, l, 15)
	}
}

func TestClearOfFewerWrongAnswersThanTries(t *testing.T) {
	for _, tries := range []int{2, 3, 10, 1000} {
		for _, given := range []int{1, tries / 2, tries - 1} {
			l := made(t, tries, 10)
			for range given {
				l.Failed(5)
			}
			holdWrong(t, l, given)
			l.Clear()
			holdWrong(t, l, 0)
			holdOpenAlways(t, l)
			// All of the tries are there again.
			for n := 1; n < tries; n++ {
				l.Failed(6)
				holdOpen(t, l, 0, 6, mostTick)
			}
			fail(t, l, tries, 7)
			holdClosed(t, l, 17)
		}
	}
}

func TestClearOfAClosedLock(t *testing.T) {
	for _, tries := range []int{1, 2, 3, 1000} {
		// At, before and behind the time until which it had been closed.
		for _, again := range []int{0, 3, 20, 25, 29, 30, 31, 1000} {
			l := closed(t, tries, 10, 20)
			l.Clear()
			holdWrong(t, l, 0)
			holdOpenAlways(t, l)
			holdOpen(t, l, 20, 29, 30)
			for n := 1; n < tries; n++ {
				l.Failed(again)
				holdOpen(t, l, 0, again, 29, mostTick)
				if l.Wrong() != n {
					t.Fatal(tries, again, n, l.Wrong())
				}
			}
			fail(t, l, tries, again)
			holdClosed(t, l, again+10)
			l.Clear()
			l.Clear()
			holdWrong(t, l, 0)
			holdOpenAlways(t, l)
		}
	}
}

func TestClearOfALockThatHasOpened(t *testing.T) {
	l := closed(t, 2, 10, 20)
	holdOpen(t, l, 30)
	l.Clear()
	holdWrong(t, l, 0)
	holdOpenAlways(t, l)
	fail(t, l, 2, 30)
	l.Clear()
	fail(t, l, 2, 31, 40)
	holdClosed(t, l, 50)
}

// With a Clear between them, many more wrong answers are counted than without.
func TestClearBetweenWrongAnswers(t *testing.T) {
	l := made(t, 2, 10)
	for range 50 {
		fail(t, l, 2, 7)
		l.Clear()
		holdOpenAlways(t, l)
		fail(t, l, 2, 7, 7)
		holdClosed(t, l, 17)
		l.Clear()
		holdOpenAlways(t, l)
	}
}
