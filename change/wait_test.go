package change_test

import (
	"testing"

	"jobber/api"
	"jobber/stops"
)

// P12.1, P12.4: orders that wait. Whatever is changed of one, it goes behind
// the others that wait.

// five wait, one of each kind, some of them with a Show, and for several
// prices.
func five(turn func(api.Order) api.Order) []api.Order {
	return []api.Order{
		turn(behind(60, showing(buy(1, 1, 61, 9), 4))), turn(behind(61, as(api.Market, buy(2, 1, 0, 8)))),
		turn(behind(38, as(api.IOC, sell(1, 2, 37, 7)))), turn(behind(60, as(api.FOK, buy(3, 1, 61, 6)))),
		turn(behind(39, showing(as(api.Post, sell(2, 2, 40, 5)), 5))),
	}
}

// marketOfFive is behind a trade, and an order rests on each side.
func marketOfFive(t *testing.T, turn func(api.Order) api.Order) (*stops.Market, []api.Order) {
	t.Helper()
	m := stops.New()
	trade(t, m, 50)
	resting := []api.Order{buy(4, 1, 41, 3), sell(4, 2, 59, 2)}
	for _, o := range append(resting, five(turn)...) {
		holdAdd(t, m, stays(o))
	}
	return m, resting
}

// pricesOf are its own, and some beside it where it may have another.
func pricesOf(o api.Order) []int {
	if o.Kind == api.Market {
		return []int{0}
	}
	return []int{o.Price, o.Price - 1, o.Price + 1, 1, api.MaxPrice}
}

func TestOrdersThatWait(t *testing.T) {
	for _, turn := range turns() {
		for i, o := range five(turn) {
			for _, price := range pricesOf(o) {
				for _, qty := range []int{1, o.Qty - 1, o.Qty, o.Qty + 1, api.MaxQty} {
					m, resting := marketOfFive(t, turn)
					to := left(at(price, o), qty)
					to.Show = min(o.Show, qty)
					holdAmend(t, m, waits(to))
					holdAll(t, m, append(append(resting, without(five(turn), i)...), to)...)
					holdBook(t, m, 2, 50, 1)
					holdDepth(t, m, api.Buy, 41, 3)
					holdDepth(t, m, api.Sell, 59, 2)
				}
			}
		}
	}
}

// They go in their new order once they are triggered.
func TestWhoIsTriggeredFirstBehindAnAmend(t *testing.T) {
	for _, turn := range turns() {
		for _, qty := range []int{1, 2, 3} {
			a, c := turn(sell(4, 1, 50, 1)), turn(sell(4, 2, 52, 9))
			s, u, v := turn(behind(50, buy(1, 1, 52, 2))), turn(behind(49, buy(2, 1, 52, 3))), turn(behind(50, buy(3, 1, 52, 2)))
			m := marketOf(t, s, a, u, c, v)
			holdAmend(t, m, waits(left(s, qty)))
			s.Qty = qty
			x := turn(buy(5, 1, 50, 1))
			holdAdd(t, m, goes(x, 0, fill(a, x, 1, 1)),
				goes(u, 0, fill(c, u, 3, 2)), goes(v, 0, fill(left(c, 6), v, 2, 3)), goes(s, 0, fill(left(c, 4), s, qty, 4)))
			holdAll(t, m, left(c, 4-qty))
		}
	}
}

// An iceberg that waits has no more to show than it has, and what its Show
// lost does not come back.
func TestAnIcebergThatWaits(t *testing.T) {
	for _, turn := range turns() {
		s, u := turn(behind(50, showing(buy(1, 1, 48, 9), 6))), turn(behind(60, buy(2, 1, 60, 1)))
		for _, c := range [][2]int{{1, 1}, {5, 5}, {6, 6}, {7, 6}, {9, 6}, {99, 6}} {
			m, to := marketOf(t, s, u), showing(left(s, c[0]), c[1])
			holdAmend(t, m, waits(to))
			holdAll(t, m, u, to)
			for _, qty := range []int{0, -1, -6, -7} {
				holdRefused(t, m, s.Trader, s.Id, s.Price, qty, api.ErrArg)
			}
			holdAmend(t, m, waits(left(to, 12)))
			to.Qty = 12
			holdAll(t, m, u, to)
			// Triggered, it rests as it was changed.
			a, x := turn(sell(3, 1, 50, 1)), turn(buy(4, 1, 50, 1))
			holdAdd(t, m, stays(a))
			holdAdd(t, m, goes(x, 0, fill(a, x, 1, 1)), rests(to, 12))
			holdAll(t, m, behind(0, to), u)
			holdDepth(t, m, to.Side, to.Price, c[1])
		}
	}
}

// One that was triggered and rests no longer waits: it is amended as one that
// rests, and keeps no Stop.
func TestAnOrderThatWaitedAndRests(t *testing.T) {
	for _, turn := range turns() {
		a, s, c := turn(sell(1, 1, 50, 1)), turn(behind(50, buy(2, 1, 48, 6))), turn(buy(3, 1, 48, 4))
		m := marketOf(t, a, s)
		x := turn(buy(4, 1, 50, 1))
		holdAdd(t, m, goes(x, 0, fill(a, x, 1, 1)), rests(s, 6))
		holdAdd(t, m, stays(c))
		s.Stop = 0
		holdLess(t, m, s, 5)
		holdAll(t, m, left(s, 5), c)
		holdAmend(t, m, rests(s, 6))
		holdAll(t, m, c, s)
		holdAmend(t, m, rests(at(turn(buy(1, 1, 60, 1)).Price, s), 6))
	}
}

// A price beyond the other side is nothing to one that waits.
func TestAnOrderThatWaitsTradesNothing(t *testing.T) {
	for _, turn := range turns() {
		a, s, p := turn(sell(1, 1, 52, 5)), turn(behind(60, buy(2, 1, 51, 6))), turn(behind(60, as(api.Post, buy(3, 1, 51, 6))))
		f, own := turn(behind(60, as(api.FOK, buy(4, 1, 51, 6)))), turn(behind(60, buy(1, 2, 51, 6)))
		m := marketOf(t, a, s, p, f, own)
		for _, o := range []api.Order{s, p, f, own} {
			to := at(turn(buy(1, 1, 99, 1)).Price, left(o, 8))
			holdAmend(t, m, waits(to))
		}
		holdBook(t, m, 1, 0, 0)
		holdDepth(t, m, a.Side, a.Price, 5)
	}
}

// By a direct change of the book an order that waits may be reached: then one
// that is changed enters the book, and those that were reached as well follow.
func TestAnOrderThatWaitsBehindATradeInTheBookItself(t *testing.T) {
	for _, turn := range turns() {
		a, c := turn(sell(1, 1, 50, 9)), turn(buy(5, 1, 40, 2))
		s, u, v := turn(behind(50, buy(2, 1, 50, 3))), turn(behind(60, buy(3, 1, 50, 3))), turn(behind(50, buy(4, 1, 50, 3)))
		m := marketOf(t, s, a, u, v, c)
		m.Book().Add(turn(buy(6, 1, 50, 1)))
		// One that keeps its place brings nothing about.
		holdLess(t, m, c, 1)
		holdBook(t, m, 2, a.Price, 1)
		to := left(v, 2)
		holdAmend(t, m, goes(to, 0, fill(left(a, 8), to, 2, 2)), goes(s, 0, fill(left(a, 6), s, 3, 3)))
		if got := m.Waiting(); len(got) != 1 || got[0] != u {
			t.Errorf("Waiting() = %+v", got)
		}
		holdDepth(t, m, a.Side, a.Price, 3)
	}
}

// One name for an order that rests and for one that waits comes about only by
// a direct change of the book: the one that rests is meant.
func TestOneThatRestsComesAheadOfOneThatWaits(t *testing.T) {
	s, o, c := behind(60, buy(2, 1, 52, 6)), sell(2, 1, 52, 3), sell(1, 1, 52, 3)
	m := marketOf(t, s)
	m.Book().Add(o)
	m.Book().Add(c)
	holdLess(t, m, o, 2)
	holdAll(t, m, left(o, 2), c, s)
	holdOpen(t, m, 12, 8)
	// The name of the one that waits keeps the other from coming back.
	holdAmend(t, m, fails(left(o, 4), api.ErrThere))
	holdAll(t, m, c, s)
	holdAmend(t, m, waits(left(s, 2)))
	m.Book().Add(o)
	holdMass(t, m, 1<<12, o, left(s, 2))
	holdAll(t, m, c)
}
