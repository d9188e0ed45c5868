package level_test

import (
	"math"
	"testing"

	"jobber/api"
	"jobber/level"
)

// P9.3.

// others are firms that have no order here.
func others() []int { return []int{0, 4, 7, 8, -1, 11, 12, 1 << 20, math.MinInt, math.MaxInt} }

func TestTakeOfNothing(t *testing.T) {
	a, b := rest(1, 1, 5, 2), rest(2, 1, 3, 0)
	l := levelOf(t, a, b)
	for _, qty := range []int{0, -1, -5, math.MinInt + 1, math.MinInt} {
		for _, firm := range append(others(), 1, 2) {
			holdTake(t, l, firm, qty, false)
			holdLevel(t, l, 5, 8, a, b)
		}
	}
}

func TestTakeOfALevelWithoutOrders(t *testing.T) {
	l := level.New(7)
	for _, qty := range []int{math.MinInt, -1, 0, 1, 5, math.MaxInt} {
		for _, firm := range append(others(), 1) {
			holdTake(t, l, firm, qty, false)
			holdLevel(t, l, 0, 0)
		}
	}
}

// Around what the first order shows, which is all of it.
func TestTakeAroundTheFirstOrder(t *testing.T) {
	a, b := rest(1, 1, 5, 0), rest(2, 1, 3, 0)
	l := levelOf(t, a, b)
	holdTake(t, l, 0, 1, false, hit(a, 1))
	holdLevel(t, l, 7, 7, left(a, 4), b)
	l = levelOf(t, a, b)
	holdTake(t, l, 0, 4, false, hit(a, 4))
	holdLevel(t, l, 4, 4, left(a, 1), b)
	l = levelOf(t, a, b)
	holdTake(t, l, 0, 5, false, hit(a, 5))
	holdLevel(t, l, 3, 3, b)
	l = levelOf(t, a, b)
	holdTake(t, l, 0, 6, false, hit(a, 5), hit(b, 1))
	holdLevel(t, l, 2, 2, left(b, 2))
}

// Around what the first order shows, which is a part of it.
func TestTakeAroundTheFirstPart(t *testing.T) {
	a, b := rest(1, 1, 9, 4), rest(2, 1, 3, 0)
	l := levelOf(t, a, b)
	holdTake(t, l, 0, 3, false, hit(a, 3))
	holdLevel(t, l, 4, 9, left(a, 6), b)
	l = levelOf(t, a, b)
	holdTake(t, l, 0, 4, false, hit(a, 4))
	holdLevel(t, l, 7, 8, b, left(a, 5))
	l = levelOf(t, a, b)
	holdTake(t, l, 0, 5, false, hit(a, 4), hit(b, 1))
	holdLevel(t, l, 6, 7, left(b, 2), left(a, 5))
}

// All that there is, one less, one more, and as much as can be.
func TestTakeOfAll(t *testing.T) {
	a, b := rest(1, 1, 5, 2), rest(2, 1, 3, 0)
	front := []api.Hit{hit(a, 2), hit(b, 3), hit(left(a, 3), 2)}
	l := levelOf(t, a, b)
	holdTake(t, l, 0, 7, false, front...)
	holdLevel(t, l, 1, 1, left(a, 1))
	for _, qty := range []int{8, 9, 1 << 20, 1<<62 + 1, math.MaxInt - 1, math.MaxInt} {
		l = levelOf(t, a, b)
		holdTake(t, l, 0, qty, false, append(front, hit(left(a, 1), 1))...)
		holdLevel(t, l, 0, 0)
		holdTake(t, l, 0, qty, false)
	}
}

// A part that is taken bit by bit keeps its place until it is gone.
func TestAPartTakenInPartKeepsItsPlace(t *testing.T) {
	a, b, c := rest(1, 1, 8, 3), rest(2, 1, 3, 1), rest(3, 1, 4, 0)
	l := levelOf(t, a, b, c)
	holdTake(t, l, 0, 1, false, hit(a, 1))
	holdLevel(t, l, 7, 14, left(a, 7), b, c)
	holdTake(t, l, 0, 1, false, hit(left(a, 7), 1))
	holdLevel(t, l, 6, 13, left(a, 6), b, c)
	holdTake(t, l, 0, 1, false, hit(left(a, 6), 1))
	holdLevel(t, l, 8, 12, b, c, left(a, 5))
	holdTake(t, l, 0, 1, false, hit(b, 1))
	holdLevel(t, l, 8, 11, c, left(a, 5), left(b, 2))
	holdTake(t, l, 0, 5, false, hit(c, 4), hit(left(a, 5), 1))
	holdLevel(t, l, 3, 6, left(a, 4), left(b, 2))
}

func TestAPartTakenWholeWithNoneBehindIt(t *testing.T) {
	a := rest(1, 1, 7, 3)
	l := levelOf(t, a)
	holdTake(t, l, 0, 2, false, hit(a, 2))
	holdLevel(t, l, 1, 5, left(a, 5))
	holdTake(t, l, 0, 1, false, hit(left(a, 5), 1))
	holdLevel(t, l, 3, 4, left(a, 4))
	holdTake(t, l, 0, 3, false, hit(left(a, 4), 3))
	holdLevel(t, l, 1, 1, left(a, 1))
	holdTake(t, l, 0, 1, false, hit(left(a, 1), 1))
	holdLevel(t, l, 0, 0)
}

// Its own next parts are taken too, each by a Hit of its own.
func TestPartsOfOneOrder(t *testing.T) {
	a := rest(1, 1, 7, 3)
	l := levelOf(t, a)
	holdTake(t, l, 0, 7, false, hit(a, 3), hit(left(a, 4), 3), hit(left(a, 1), 1))
	holdLevel(t, l, 0, 0)
	l = levelOf(t, a)
	holdTake(t, l, 0, 5, false, hit(a, 3), hit(left(a, 4), 2))
	holdLevel(t, l, 1, 2, left(a, 2))
	holdTake(t, l, 0, 5, false, hit(left(a, 2), 1), hit(left(a, 1), 1))
}

// The last part is less than its Show, and the Show stays as it came.
func TestTheLastPart(t *testing.T) {
	a, b := rest(1, 1, 5, 3), rest(2, 1, 6, 0)
	l := levelOf(t, a, b)
	holdTake(t, l, 0, 3, false, hit(a, 3))
	holdLevel(t, l, 8, 8, b, left(a, 2))
	holdTake(t, l, 0, 7, false, hit(b, 6), hit(left(a, 2), 1))
	holdLevel(t, l, 1, 1, left(a, 1))
	l.Add(b)
	holdTake(t, l, 0, 2, false, hit(left(a, 1), 1), hit(b, 1))
	holdLevel(t, l, 5, 5, left(b, 5))
}

// A Show of just the Qty is one part.
func TestAShowOfTheWholeQty(t *testing.T) {
	a, b := rest(1, 1, 4, 4), rest(2, 1, 1, 0)
	l := levelOf(t, a, b)
	holdTake(t, l, 0, 3, false, hit(a, 3))
	holdLevel(t, l, 2, 2, left(a, 1), b)
	holdTake(t, l, 0, 2, false, hit(left(a, 1), 1), hit(b, 1))
	holdLevel(t, l, 0, 0)
}

func TestTheSameFirmFirst(t *testing.T) {
	for _, a := range []api.Order{rest(1, 1, 5, 2), rest(1, 1, 5, 0), rest(0, 1, 5, 0), rest(7, 1, 5, 1)} {
		b := rest(2, 1, 3, 0)
		l := levelOf(t, a, b)
		seen := l.Seen()
		for _, qty := range []int{1, 2, 5, 8, math.MaxInt} {
			holdTake(t, l, a.Firm, qty, true)
			holdLevel(t, l, seen, 8, a, b)
		}
	}
}

func TestTheSameFirmBehindOthers(t *testing.T) {
	a, b, c := rest(1, 1, 5, 2), rest(2, 1, 3, 0), rest(3, 1, 4, 0)
	l := levelOf(t, a, b, c)
	holdTake(t, l, 3, 5, false, hit(a, 2), hit(b, 3))
	l = levelOf(t, a, b, c)
	holdTake(t, l, 3, 6, true, hit(a, 2), hit(b, 3))
	holdLevel(t, l, 6, 7, c, left(a, 3))
	l = levelOf(t, a, b, c)
	holdTake(t, l, 2, math.MaxInt, true, hit(a, 2))
	holdLevel(t, l, 9, 10, b, c, left(a, 3))
}

// When just as much was asked for as stands in front of the firm's own order,
// nothing is left that could meet it.
func TestNothingIsLeftToMeetTheSameFirm(t *testing.T) {
	a, b := rest(1, 1, 5, 0), rest(2, 1, 3, 0)
	l := levelOf(t, a, b)
	holdTake(t, l, 2, 5, false, hit(a, 5))
	holdLevel(t, l, 3, 3, b)
	holdTake(t, l, 2, 0, false)
	holdTake(t, l, 2, 1, true)
	holdLevel(t, l, 3, 3, b)
}

// The firm is what counts, not the trader: two traders of one firm.
func TestAnotherTraderOfTheSameFirm(t *testing.T) {
	a, b := rest(1, 1, 5, 0), rest(1, 1, 3, 0)
	b.Trader = 1
	l := levelOf(t, a, b)
	holdTake(t, l, 1, 1, true)
	for _, firm := range []int{11, 0, 2} {
		holdTake(t, l, firm, 1, false, hit(l.Orders()[0], 1))
	}
	l.Remove(11, 1)
	holdTake(t, l, 1, 1, true)
	holdTake(t, l, 11, 3, false, hit(b, 3))
}

func TestFirmsThatHaveNoOrder(t *testing.T) {
	for _, firm := range others() {
		a, b := rest(1, 1, 5, 0), rest(2, 1, 3, 0)
		l := levelOf(t, a, b)
		holdTake(t, l, firm, 6, false, hit(a, 5), hit(b, 1))
		holdLevel(t, l, 2, 2, left(b, 2))
	}
}

// The greatest order in the smallest parts, with many others behind it: every
// part goes to the end, and this takes no long time.
func TestManyParts(t *testing.T) {
	l := level.New(7)
	for i := range 2000 {
		l.Add(rest(1, i, 100, 1))
	}
	hits, own := l.Take(0, math.MaxInt)
	if len(hits) != 200000 || own || l.Len() != 0 {
		t.Fatal(len(hits), own, l.Len())
	}
	for i, h := range hits {
		if want := hit(rest(1, i%2000, 100-i/2000, 1), 1); h != want {
			t.Fatal(i, h)
		}
	}
	l.Add(rest(1, 1, 1<<20, 1))
	hits, own = l.Take(0, math.MaxInt)
	if len(hits) != 1<<20 || own || l.Len() != 0 || hits[1<<20-1] != hit(rest(1, 1, 1, 1), 1) {
		t.Error(len(hits), own, l.Len())
	}
}
