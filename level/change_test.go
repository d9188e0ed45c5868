package level_test

import (
	"math"
	"testing"

	"jobber/api"
	"jobber/level"
)

// P9.4, Remove.

func TestRemoveTheFirstOneBetweenAndTheLast(t *testing.T) {
	a, b, c := rest(1, 1, 5, 2), rest(2, 1, 3, 0), rest(3, 1, 4, 1)
	l := levelOf(t, a, b, c)
	holdRemove(t, l, 11, 1, a, true)
	holdLevel(t, l, 4, 7, b, c)
	l = levelOf(t, a, b, c)
	holdRemove(t, l, 12, 1, b, true)
	holdLevel(t, l, 3, 9, a, c)
	l = levelOf(t, a, b, c)
	holdRemove(t, l, 13, 1, c, true)
	holdLevel(t, l, 5, 8, a, b)
	holdRemove(t, l, 11, 1, a, true)
	holdRemove(t, l, 12, 1, b, true)
	holdLevel(t, l, 0, 0)
}

// absent are a trader and an id that no order of the level has together.
func absent() [][2]int {
	return [][2]int{{11, 3}, {11, 0}, {12, 2}, {13, 1}, {10, 1}, {1, 11}, {1, 1}, {0, 0}, {-1, -1},
		{-11, 1}, {11, -1}, {11 + 32, 1}, {11, 1 + 1<<30}, {math.MinInt, 1}, {11, math.MaxInt}, {math.MaxInt, math.MinInt}}
}

func TestRemoveWhatIsNotThere(t *testing.T) {
	a, b, c := rest(1, 1, 5, 2), rest(1, 2, 3, 0), rest(2, 1, 4, 1)
	l := levelOf(t, a, b, c)
	for _, w := range absent() {
		holdRemove(t, l, w[0], w[1], api.Order{}, false)
		holdLevel(t, l, 6, 12, a, b, c)
		holdRemove(t, level.New(7), w[0], w[1], api.Order{}, false)
	}
}

func TestRemoveTwice(t *testing.T) {
	a, b := rest(1, 1, 5, 2), rest(1, 2, 3, 0)
	l := levelOf(t, a, b)
	holdRemove(t, l, 11, 1, a, true)
	holdRemove(t, l, 11, 1, api.Order{}, false)
	holdLevel(t, l, 3, 3, b)
	l.Add(a)
	holdLevel(t, l, 5, 8, b, a)
	holdRemove(t, l, 11, 1, a, true)
}

// What was taken of it is gone, and one that was taken whole is not there.
func TestRemoveBehindATake(t *testing.T) {
	a, b, c := rest(1, 1, 9, 4), rest(2, 1, 3, 0), rest(3, 1, 5, 0)
	l := levelOf(t, a, b, c)
	holdTake(t, l, 0, 8, false, hit(a, 4), hit(b, 3), hit(c, 1))
	holdRemove(t, l, 12, 1, api.Order{}, false)
	holdRemove(t, l, 11, 1, left(a, 5), true)
	holdLevel(t, l, 4, 4, left(c, 4))
	holdRemove(t, l, 13, 1, left(c, 4), true)
	l = levelOf(t, a, b)
	holdTake(t, l, 0, 1, false, hit(a, 1))
	holdRemove(t, l, 11, 1, left(a, 8), true)
	l.Add(left(a, 8))
	holdLevel(t, l, 7, 11, b, left(a, 8))
}

func TestTakeBehindARemove(t *testing.T) {
	a, b, c := rest(1, 1, 5, 2), rest(2, 1, 3, 0), rest(3, 1, 4, 1)
	l := levelOf(t, a, b, c)
	l.Remove(12, 1)
	holdTake(t, l, 0, 4, false, hit(a, 2), hit(c, 1), hit(left(a, 3), 1))
	holdLevel(t, l, 2, 5, left(a, 2), left(c, 3))
	l = levelOf(t, a, b, c)
	l.Remove(11, 1)
	holdTake(t, l, 1, 4, false, hit(b, 3), hit(c, 1))
	l = levelOf(t, a, b, c)
	l.Remove(13, 1)
	holdTake(t, l, 3, math.MaxInt, false, hit(a, 2), hit(b, 3), hit(left(a, 3), 2), hit(left(a, 1), 1))
}

// P9.4, Less.

func TestLessKeepsThePlace(t *testing.T) {
	a, b, c := rest(1, 1, 5, 0), rest(2, 1, 6, 0), rest(3, 1, 7, 0)
	l := levelOf(t, a, b, c)
	holdLess(t, l, 11, 1, 2, true)
	holdLevel(t, l, 15, 15, left(a, 2), b, c)
	holdLess(t, l, 12, 1, 2, true)
	holdLevel(t, l, 11, 11, left(a, 2), left(b, 2), c)
	holdLess(t, l, 13, 1, 2, true)
	holdLevel(t, l, 6, 6, left(a, 2), left(b, 2), left(c, 2))
	holdTake(t, l, 0, 5, false, hit(left(a, 2), 2), hit(left(b, 2), 2), hit(left(c, 2), 1))
	holdLevel(t, l, 1, 1, left(c, 1))
}

// An order of 9 of which 4 are visible, first, between and last.
func TestLessToEachQuantity(t *testing.T) {
	a, b, c := rest(1, 1, 9, 4), rest(2, 1, 6, 0), rest(3, 1, 7, 2)
	for qty := 1; qty <= 9; qty++ {
		visible := 4
		if qty < 4 {
			visible = qty
		}
		l := levelOf(t, a, b, c)
		holdLess(t, l, 11, 1, qty, true)
		holdLevel(t, l, visible+8, qty+13, left(a, qty), b, c)
		l = levelOf(t, b, a, c)
		holdLess(t, l, 11, 1, qty, true)
		holdLevel(t, l, visible+8, qty+13, b, left(a, qty), c)
		l = levelOf(t, b, c, a)
		holdLess(t, l, 11, 1, qty, true)
		holdLevel(t, l, visible+8, qty+13, b, c, left(a, qty))
	}
}

func TestLessToWhatCannotBe(t *testing.T) {
	a, b := rest(1, 1, 9, 4), rest(2, 1, 6, 0)
	l := levelOf(t, a, b)
	for _, qty := range []int{0, -1, -9, math.MinInt, math.MinInt + 1, 10, 11, 1 << 20, math.MaxInt - 1, math.MaxInt} {
		holdLess(t, l, 11, 1, qty, false)
		holdLess(t, l, 12, 1, qty, false)
		holdLevel(t, l, 10, 15, a, b)
	}
	holdLess(t, l, 12, 1, 7, false)
	holdLess(t, l, 12, 1, 6, true)
	holdLevel(t, l, 10, 15, a, b)
}

func TestLessOfWhatIsNotThere(t *testing.T) {
	a, b, c := rest(1, 1, 5, 2), rest(1, 2, 3, 0), rest(2, 1, 4, 1)
	l := levelOf(t, a, b, c)
	for _, w := range absent() {
		for _, qty := range []int{math.MinInt, -1, 0, 1, 2, 3, 5, math.MaxInt} {
			holdLess(t, l, w[0], w[1], qty, false)
			holdLevel(t, l, 6, 12, a, b, c)
			holdLess(t, level.New(7), w[0], w[1], qty, false)
		}
	}
}

// The Qty that counts is what is left of the order, not what it came with.
func TestLessBehindATake(t *testing.T) {
	a, b := rest(1, 1, 9, 4), rest(2, 1, 6, 0)
	l := levelOf(t, a, b)
	holdTake(t, l, 0, 5, false, hit(a, 4), hit(b, 1))
	holdLess(t, l, 11, 1, 6, false)
	holdLess(t, l, 12, 1, 6, false)
	holdLevel(t, l, 9, 10, left(b, 5), left(a, 5))
	holdLess(t, l, 11, 1, 5, true)
	holdLess(t, l, 12, 1, 5, true)
	holdLevel(t, l, 9, 10, left(b, 5), left(a, 5))
	holdTake(t, l, 0, 5, false, hit(left(b, 5), 5))
	holdLess(t, l, 12, 1, 1, false)
	holdLevel(t, l, 4, 5, left(a, 5))
}

// Of 4 visible 3 were taken: the one that is left of them stays as it is, as
// long as the Qty allows it, and nothing is shown anew.
func TestLessOfAPartTakenInPart(t *testing.T) {
	a, b := rest(1, 1, 9, 4), rest(2, 1, 6, 0)
	for qty := 1; qty <= 6; qty++ {
		l := levelOf(t, a, b)
		holdTake(t, l, 0, 3, false, hit(a, 3))
		holdLess(t, l, 11, 1, qty, true)
		holdLevel(t, l, 7, qty+6, left(a, qty), b)
		holdTake(t, l, 0, 2, false, hit(left(a, qty), 1), hit(b, 1))
	}
}

// One of which less is left than is visible shows no more than that; the Show
// itself stays, and what comes behind it is not touched.
func TestTakeBehindLess(t *testing.T) {
	a, b := rest(1, 1, 9, 4), rest(2, 1, 6, 0)
	l := levelOf(t, a, b)
	holdLess(t, l, 11, 1, 3, true)
	holdTake(t, l, 0, 4, false, hit(left(a, 3), 3), hit(b, 1))
	holdLevel(t, l, 5, 5, left(b, 5))
	l = levelOf(t, a, b)
	holdLess(t, l, 11, 1, 6, true)
	holdTake(t, l, 0, math.MaxInt, false, hit(left(a, 6), 4), hit(b, 6), hit(left(a, 2), 2))
	holdLevel(t, l, 0, 0)
	l = levelOf(t, a, b)
	holdLess(t, l, 11, 1, 1, true)
	holdTake(t, l, 0, 1, false, hit(left(a, 1), 1))
	holdLevel(t, l, 6, 6, b)
}

// Less goes down alone: what went does not come back.
func TestLessAgain(t *testing.T) {
	a := rest(1, 1, 9, 4)
	l := levelOf(t, a)
	for qty := 9; qty >= 1; qty-- {
		holdLess(t, l, 11, 1, qty, true)
		holdLess(t, l, 11, 1, qty+1, false)
		holdLevel(t, l, min(4, qty), qty, left(a, qty))
	}
}
