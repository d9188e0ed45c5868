package stops_test

import (
	"slices"
	"testing"

	"jobber/api"
)

// P11.4: Find and Remove.

func TestFind(t *testing.T) {
	a, c := showing(sell(1, 1, 10, 5), 2), buy(2, 2, 9, 5)
	s, u, v := behind(12, buy(3, 1, 12, 6)), behind(8, sell(4, 4, 1, 6)), behind(20, showing(buy(5, 5, 1, 6), 2))
	m := marketOf(t, s, a, u, c, v)
	before := pictureOf(m)
	for _, o := range []api.Order{a, c, s, u, v} {
		holdFind(t, m, o.Trader, o.Id, o, true)
		holdFind(t, m, o.Trader, o.Id+1, api.Order{}, false)
		holdFind(t, m, o.Trader+32, o.Id, api.Order{}, false)
		holdFind(t, m, o.Firm, o.Id, api.Order{}, false)
		holdFind(t, m, o.Id, o.Trader, api.Order{}, false)
	}
	holdFind(t, m, 13, 4, api.Order{}, false)
	holdFind(t, m, 14, 1, api.Order{}, false)
	holdFind(t, m, 0, 0, api.Order{}, false)
	holdPicture(t, m, before)
}

// What rests is found as it stands, also where it waited before.
func TestFindAsItStands(t *testing.T) {
	a, s := sell(1, 1, 10, 5), behind(10, showing(buy(2, 1, 10, 9), 6))
	m := marketOf(t, a, s)
	holdFind(t, m, 12, 1, s, true)
	x := buy(3, 1, 10, 2)
	holdAdd(t, m, goes(x, 0, fill(a, x, 2, 1)), rests(s, 6, fill(left(a, 3), s, 3, 2)))
	holdFind(t, m, 12, 1, behind(0, left(s, 6)), true)
	y := sell(3, 2, 10, 4)
	holdAdd(t, m, goes(y, 0, fill(left(s, 6), y, 4, 3)))
	holdFind(t, m, 12, 1, behind(0, left(s, 2)), true)
	holdFind(t, m, 11, 1, api.Order{}, false)
	holdRemove(t, m, 12, 1, behind(0, left(s, 2)), true)
	holdAll(t, m)
}

func TestRemoveWhatRests(t *testing.T) {
	a, c, d := sell(1, 1, 10, 5), sell(2, 1, 10, 4), buy(3, 1, 9, 3)
	s, u := behind(12, buy(4, 1, 12, 6)), behind(8, sell(5, 1, 1, 6))
	m := marketOf(t, s, a, u, c, d)
	holdRemove(t, m, 11, 1, a, true)
	holdAll(t, m, d, c, s, u)
	holdRemove(t, m, 11, 1, api.Order{}, false)
	holdAll(t, m, d, c, s, u)
	holdRemove(t, m, 13, 1, d, true)
	holdAll(t, m, c, s, u)
	holdWaiting(t, m, s, u)
}

func TestRemoveTheFirstOneBetweenAndTheLastThatWaits(t *testing.T) {
	a := sell(1, 1, 50, 5)
	var waiting []api.Order
	for i := range 5 {
		waiting = append(waiting, behind(60-i, buy(2, i, 40+i, 1+i)))
	}
	for i, o := range waiting {
		m := marketOf(t, append([]api.Order{a}, waiting...)...)
		others := slices.Concat(waiting[:i], waiting[i+1:])
		holdRemove(t, m, 12, i, o, true)
		holdWaiting(t, m, others...)
		holdAll(t, m, append([]api.Order{a}, others...)...)
		for range 2 {
			holdFind(t, m, 12, i, api.Order{}, false)
			holdRemove(t, m, 12, i, api.Order{}, false)
			holdWaiting(t, m, others...)
		}
		// Its name is free again, and it comes to the end.
		holdComes(t, m, o)
		holdWaiting(t, m, append(others, o)...)
	}
}

func TestRemoveWhatIsNotThere(t *testing.T) {
	m := marketOf(t, sell(1, 1, 10, 5), behind(12, buy(2, 2, 12, 6)), behind(8, sell(3, 3, 1, 6)))
	before := pictureOf(m)
	for _, c := range [][2]int{{11, 2}, {12, 1}, {12, 3}, {13, 2}, {1, 1}, {2, 2}, {0, 0}, {2, 12}, {44, 2}, {-12, 2}, {12, -2}} {
		holdRemove(t, m, c[0], c[1], api.Order{}, false)
		holdPicture(t, m, before)
	}
}

// What was removed is triggered no more.
func TestWhatWasRemovedIsNotTriggered(t *testing.T) {
	a, c := sell(1, 1, 10, 5), sell(1, 2, 11, 5)
	s, u := behind(10, buy(2, 1, 12, 3)), behind(10, buy(3, 1, 12, 4))
	m := marketOf(t, a, c, s, u)
	holdRemove(t, m, 12, 1, s, true)
	x := buy(4, 1, 10, 5)
	holdAdd(t, m, goes(x, 0, fill(a, x, 5, 1)), goes(u, 0, fill(c, u, 4, 2)))
	holdAll(t, m, left(c, 1))
}

// One name for an order that rests and for one that waits comes about only by
// a direct change of the book: the one that rests comes first.
func TestOneThatRestsComesAheadOfOneThatWaits(t *testing.T) {
	s, o := behind(12, buy(2, 1, 12, 6)), sell(2, 1, 50, 3)
	m := marketOf(t, s)
	m.Book().Add(o)
	holdAll(t, m, o, s)
	holdFind(t, m, 12, 1, o, true)
	holdRemove(t, m, 12, 1, o, true)
	holdAll(t, m, s)
	holdFind(t, m, 12, 1, s, true)
	// Where it is triggered beside the other, the book refuses it.
	m.Book().Add(o)
	maker, x := sell(1, 1, 12, 2), buy(3, 1, 12, 1)
	holdComes(t, m, maker)
	holdAdd(t, m, goes(x, 0, fill(maker, x, 1, 1)), fails(s, api.ErrThere))
	holdAll(t, m, left(maker, 1), o)
}
