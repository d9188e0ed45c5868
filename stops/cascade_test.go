package stops_test

import (
	"slices"
	"testing"

	"jobber/api"
	"jobber/stops"
)

// P11.3, P11.5: the cascade. Where a case is tried turned as well, what is said
// of it here is said of the case as it is written.

func TestATradeThatTriggersNone(t *testing.T) {
	for _, turn := range turns() {
		a, s, u := turn(sell(1, 1, 50, 5)), turn(behind(51, buy(2, 1, 60, 3))), turn(behind(49, sell(3, 1, 40, 3)))
		m := marketOf(t, a, s, u)
		for i := range 5 {
			x := turn(buy(4, 1, 50, 1))
			holdAdd(t, m, goes(x, 0, fill(left(a, 5-i), x, 1, 1+i)))
			holdWaiting(t, m, s, u)
		}
		// Nor does an order that comes to rest beyond a Stop.
		holdComes(t, m, turn(sell(4, 1, 60, 1)))
		holdComes(t, m, turn(buy(4, 2, 40, 1)))
		holdWaiting(t, m, s, u)
	}
}

// Last just at the Stop triggers, and so does Last beyond it, on either side.
func TestATradeAtAndBeyondTheStop(t *testing.T) {
	for _, side := range []int{api.Buy, api.Sell} {
		for price := 48; price <= 52; price++ {
			a, x := sell(1, 1, price, 1), buy(2, 1, price, 1)
			s := behind(50, buy(3, 1, 30, 7))
			s.Side = side
			m := marketOf(t, s, a)
			if side == api.Buy && price >= 50 || side == api.Sell && price <= 50 {
				holdAdd(t, m, goes(x, 0, fill(a, x, 1, 1)), rests(s, 7))
				holdAll(t, m, behind(0, s))
				holdWaiting(t, m)
			} else {
				holdAdd(t, m, goes(x, 0, fill(a, x, 1, 1)))
				holdAll(t, m, s)
				holdWaiting(t, m, s)
			}
			holdBook(t, m, 1-len(m.Waiting()), price, 1)
		}
	}
}

// Each kind that waits and is triggered: it no longer waits, whatever comes of
// it.
func TestEachKindThatIsTriggered(t *testing.T) {
	for _, turn := range turns() {
		resting, first, wants := reachedAt50(turn)
		for _, want := range wants {
			m := marketOf(t, append(resting, want.Order)...)
			holdFind(t, m, want.Order.Trader, want.Order.Id, want.Order, true)
			holdAdd(t, m, first, want)
			holdCameTo(t, m, want)
		}
	}
}

// An iceberg waits whole, and rests as the book lets it.
func TestAnIcebergThatIsTriggered(t *testing.T) {
	a, s := sell(1, 1, 50, 5), behind(50, showing(buy(2, 1, 50, 9), 6))
	m := marketOf(t, a, s)
	x := buy(3, 1, 50, 1)
	holdAdd(t, m, goes(x, 0, fill(a, x, 1, 1)), rests(s, 5, fill(left(a, 4), s, 4, 2)))
	holdAll(t, m, showing(left(behind(0, s), 5), 5))
}

// A Limit that is triggered may trade with several and meet its own firm.
func TestAnOrderThatIsTriggeredMeetsItsOwnFirm(t *testing.T) {
	for _, turn := range turns() {
		a, c, d := turn(sell(1, 1, 50, 5)), turn(sell(1, 2, 51, 5)), turn(sell(2, 1, 52, 5))
		s, u := turn(behind(50, buy(2, 2, 60, 20))), turn(behind(51, buy(3, 1, 52, 1)))
		m := marketOf(t, s, u, a, c, d)
		x := turn(buy(4, 1, 50, 2))
		holdAdd(t, m, goes(x, 0, fill(a, x, 2, 1)), meets(s, 12, fill(left(a, 3), s, 3, 2), fill(c, left(s, 17), 5, 3)), goes(u, 0, fill(d, u, 1, 4)))
		holdAll(t, m, left(d, 4))
	}
}

// Those that wait for one price go in the order in which they arrived; so do
// those that wait for several prices, all of which are reached at once.
func TestSeveralThatAreTriggeredAtOnce(t *testing.T) {
	for _, turn := range turns() {
		for _, at := range [][]int{{50, 50, 50, 50}, {47, 48, 49, 50}, {50, 49, 48, 47}, {48, 50, 1, 49}} {
			a, c := turn(sell(1, 1, 50, 5)), turn(sell(1, 2, 51, 5))
			s, u := turn(behind(at[0], buy(2, 1, 51, 2))), turn(behind(at[1], as(api.Market, buy(3, 1, 0, 2))))
			v, w := turn(behind(at[2], as(api.Post, buy(4, 1, 51, 2)))), turn(behind(at[3], buy(3, 2, 51, 2)))
			m := marketOf(t, a, c, s, u, v, w)
			x := turn(buy(5, 1, 50, 5))
			holdAdd(t, m, goes(x, 0, fill(a, x, 5, 1)),
				goes(s, 0, fill(c, s, 2, 2)), goes(u, 0, fill(left(c, 3), u, 2, 3)),
				fails(v, api.ErrTake), rests(w, 1, fill(left(c, 1), w, 1, 4)))
			holdAll(t, m, behind(0, left(w, 1)))
		}
	}
}

// Of several, only those that are reached go, and the others keep their order.
func TestSomeAreTriggeredAndOthersWaitOn(t *testing.T) {
	for _, turn := range turns() {
		var waiting, stay []api.Order
		a, x := turn(sell(1, 1, 50, 5)), turn(buy(3, 1, 50, 5))
		want := []api.Outcome{goes(x, 0, fill(a, x, 5, 1))}
		for i, at := range []int{60, 50, 51, 49, 50, 70, 51, 1, 99} {
			s := turn(behind(at, as(api.IOC, buy(2, i, 50, 1+i))))
			waiting = append(waiting, s)
			if at > 50 {
				stay = append(stay, s)
			} else {
				want = append(want, goes(s, s.Qty))
			}
		}
		m := marketOf(t, append(waiting, a)...)
		holdAdd(t, m, want...)
		holdWaiting(t, m, stay...)
		holdAll(t, m, stay...)
	}
}

// One triggers another, and that one a third, in whatever order they arrived.
func TestAChain(t *testing.T) {
	for _, turn := range turns() {
		for _, n := range []int{2, 3} {
			for _, places := range [][]int{{0, 1, 2}, {0, 2, 1}, {1, 0, 2}, {1, 2, 0}, {2, 0, 1}, {2, 1, 0}} {
				var makers, takers []api.Order
				for i := range n + 1 {
					makers = append(makers, turn(sell(1, i, 50+i, 1)))
					takers = append(takers, turn(behind(49+i, as([]int{api.Market, api.Limit, api.IOC}[i%3], buy(2+i, i, 50+i, 1)))))
				}
				takers[0] = turn(buy(2, 0, 50, 1))
				orders, want := slices.Clone(makers), []api.Outcome{goes(takers[0], 0, fill(makers[0], takers[0], 1, 1))}
				for _, place := range places {
					if place < n {
						orders = append(orders, takers[1+place])
					}
				}
				for i := range n {
					want = append(want, goes(takers[1+i], 0, fill(makers[1+i], takers[1+i], 1, 2+i)))
				}
				m := marketOf(t, orders...)
				holdAdd(t, m, want...)
				holdAll(t, m)
				holdBook(t, m, 0, makers[n].Price, n+1)
			}
		}
	}
}

// A chain as long as a market can hold one, each of which arrived ahead of the
// one that triggers it.
func TestALongChain(t *testing.T) {
	n := api.MaxBook / 2
	m := stops.New()
	want := []api.Outcome{{}}
	for i := range n {
		holdComes(t, m, sell(1, i, 50+i, 1))
	}
	for i := n - 1; i > 0; i-- {
		holdComes(t, m, behind(49+i, as(api.Market, buy(2, i, 0, 1))))
	}
	for i := 1; i < n; i++ {
		s := behind(49+i, as(api.Market, buy(2, i, 0, 1)))
		want = append(want, goes(s, 0, fill(sell(1, i, 50+i, 1), s, 1, 1+i)))
	}
	x := buy(3, 1, 50, 1)
	want[0] = goes(x, 0, fill(sell(1, 0, 50, 1), x, 1, 1))
	holdAdd(t, m, want...)
	holdAll(t, m)
}

// All that wait at once, in a market that is full of them.
func TestAllAreTriggered(t *testing.T) {
	m := stops.New()
	var want []api.Outcome
	maker, x := sell(1, 0, 50, 1), as(api.IOC, buy(3, 0, 50, 1))
	want = append(want, goes(x, 0, fill(maker, x, 1, 1)))
	for i := range api.MaxBook - 1 {
		s := behind(50-i%9, buy(2, i, 40, 1+i))
		holdComes(t, m, s)
		want = append(want, rests(s, s.Qty))
	}
	holdComes(t, m, maker)
	holdAdd(t, m, want...)
	holdBook(t, m, api.MaxBook-1, 50, 1)
	holdWaiting(t, m)
	for i, o := range m.All() {
		if o != buy(2, i, 40, 1+i) {
			t.Errorf("All()[%d] = %+v", i, o)
		}
	}
}

// The first that is triggered goes next: one that a trade of the cascade
// reaches goes ahead of one that was reached before it but arrived later.
func TestTheFirstThatIsTriggeredGoesNext(t *testing.T) {
	for _, turn := range turns() {
		a, c, d, e := turn(sell(1, 1, 50, 1)), turn(sell(1, 2, 51, 1)), turn(sell(1, 3, 52, 1)), turn(sell(1, 4, 53, 1))
		late := turn(behind(51, buy(2, 1, 60, 1)))
		first, second := turn(behind(50, buy(3, 1, 60, 1))), turn(behind(50, buy(4, 1, 60, 1)))
		x := turn(buy(5, 1, 50, 1))
		m := marketOf(t, a, c, d, e, late, first, second)
		holdAdd(t, m, goes(x, 0, fill(a, x, 1, 1)), goes(first, 0, fill(c, first, 1, 2)), goes(late, 0, fill(d, late, 1, 3)), goes(second, 0, fill(e, second, 1, 4)))
		m = marketOf(t, a, c, d, e, first, second, late)
		holdAdd(t, m, goes(x, 0, fill(a, x, 1, 1)), goes(first, 0, fill(c, first, 1, 2)), goes(second, 0, fill(d, second, 1, 3)), goes(late, 0, fill(e, late, 1, 4)))
		m = marketOf(t, a, c, d, e, first, late, second)
		holdAdd(t, m, goes(x, 0, fill(a, x, 1, 1)), goes(first, 0, fill(c, first, 1, 2)), goes(late, 0, fill(d, late, 1, 3)), goes(second, 0, fill(e, second, 1, 4)))
	}
}

// One that only a later trade of the same cascade reaches: neither the order
// that arrives nor the first one that is triggered trades as far.
func TestOneThatALaterTradeOfTheCascadeReaches(t *testing.T) {
	for _, turn := range turns() {
		a, c, d := turn(sell(1, 1, 50, 1)), turn(sell(1, 2, 51, 1)), turn(sell(1, 3, 55, 9))
		late, first, second := turn(behind(53, buy(2, 1, 55, 2))), turn(behind(50, buy(3, 1, 51, 3))), turn(behind(51, as(api.Market, buy(4, 1, 0, 4))))
		m := marketOf(t, late, first, second, a, c, d)
		x := turn(buy(5, 1, 50, 1))
		holdAdd(t, m, goes(x, 0, fill(a, x, 1, 1)), rests(first, 2, fill(c, first, 1, 2)),
			goes(second, 0, fill(d, second, 4, 3)), goes(late, 0, fill(left(d, 5), late, 2, 4)))
		holdWaiting(t, m)
	}
}

// Only the last trade counts: what the trades of one order pass on their way,
// and leave again, is not reached.
func TestAStopThatOneOrderPassesAndLeaves(t *testing.T) {
	for _, turn := range turns() {
		a, c, d := turn(sell(1, 1, 50, 1)), turn(sell(1, 2, 51, 1)), turn(sell(1, 3, 52, 1))
		s, u, v := turn(behind(50, sell(2, 1, 40, 1))), turn(behind(51, sell(2, 2, 40, 1))), turn(behind(52, sell(2, 3, 60, 1)))
		m := marketOf(t, s, u, v, a, c, d)
		x := turn(buy(3, 1, 60, 3))
		holdAdd(t, m, goes(x, 0, fill(a, x, 1, 1), fill(c, left(x, 2), 1, 2), fill(d, left(x, 1), 1, 3)), rests(v, 1))
		holdWaiting(t, m, s, u)
	}
}

// Nor is one whose Stop was reached when the cascade began, but which a trade
// of an order ahead of it leaves again.
func TestAStopThatTheCascadeLeaves(t *testing.T) {
	for _, turn := range turns() {
		a, c := turn(sell(1, 1, 50, 1)), turn(buy(1, 2, 45, 9))
		falls := turn(behind(50, as(api.Market, sell(2, 1, 0, 2))))
		stays, near, again := turn(behind(50, buy(3, 1, 60, 1))), turn(behind(46, buy(3, 2, 60, 1))), turn(behind(45, buy(3, 3, 44, 1)))
		m := marketOf(t, falls, stays, near, again, a, c)
		x := turn(buy(4, 1, 50, 1))
		holdAdd(t, m, goes(x, 0, fill(a, x, 1, 1)), goes(falls, 0, fill(c, falls, 2, 2)), rests(again, 1))
		holdWaiting(t, m, stays, near)
		// They are reached when a trade comes there again.
		d, y := turn(sell(1, 3, 48, 5)), turn(buy(4, 2, 48, 1))
		holdComes(t, m, d)
		holdAdd(t, m, goes(y, 0, fill(d, y, 1, 3)), goes(near, 0, fill(left(d, 4), near, 1, 4)))
		holdWaiting(t, m, stays)
		// Had the others arrived ahead of the one that falls, they had gone.
		m = marketOf(t, stays, falls, near, again, a, c)
		holdAdd(t, m, goes(x, 0, fill(a, x, 1, 1)), rests(stays, 1), goes(falls, 0, fill(stays, falls, 1, 2), fill(c, left(falls, 1), 1, 3)), rests(again, 1))
		holdWaiting(t, m, near)
	}
}

// An order that is refused triggers nothing; one that waits neither; one that
// is triggered as it arrives goes ahead of those that its trades trigger.
func TestTheOrderThatArrivesComesFirst(t *testing.T) {
	for _, turn := range turns() {
		a, c, d := turn(sell(1, 1, 50, 1)), turn(sell(1, 2, 51, 1)), turn(sell(1, 3, 52, 9))
		s := turn(behind(51, as(api.Market, buy(2, 1, 0, 1))))
		m := marketOf(t, s, a, c, d)
		x := turn(buy(3, 1, 50, 1))
		holdAdd(t, m, goes(x, 0, fill(a, x, 1, 1)))
		holdAdd(t, m, fails(turn(behind(50, as(api.FOK, buy(3, 2, 51, 2)))), api.ErrFill))
		holdComes(t, m, turn(behind(51, buy(3, 2, 51, 2))))
		y, u := turn(behind(50, buy(4, 1, 51, 1))), turn(behind(51, buy(3, 2, 51, 2)))
		holdAdd(t, m, goes(y, 0, fill(c, y, 1, 2)), goes(s, 0, fill(d, s, 1, 3)), rests(u, 2))
		holdWaiting(t, m)
	}
}

// An order that leaves the others that wait makes the room in which it rests;
// only by a direct change can the book itself be full.
func TestOneThatIsTriggeredInAFullMarket(t *testing.T) {
	s, x := behind(46, buy(3, 1, 40, 7)), as(api.Market, buy(4, 1, 0, 1))
	m := stops.New()
	for i := range api.MaxBook - 1 {
		holdComes(t, m, sell(1, i, 50, 2))
	}
	holdComes(t, m, s)
	maker := sell(1, 0, 50, 2)
	holdAdd(t, m, goes(x, 0, fill(maker, x, 1, 1)), rests(s, 7))
	holdBook(t, m, api.MaxBook, 50, 1)

	m = stops.New()
	holdComes(t, m, s)
	holdComes(t, m, behind(46, as(api.IOC, buy(3, 2, 50, 1))))
	holdComes(t, m, behind(46, as(api.Post, buy(3, 3, 40, 1))))
	for i := range api.MaxBook {
		m.Book().Add(sell(1, i, 50, 3))
	}
	maker = left(maker, 3)
	ioc, post := behind(46, as(api.IOC, buy(3, 2, 50, 1))), behind(46, as(api.Post, buy(3, 3, 40, 1)))
	holdAdd(t, m, goes(x, 0, fill(maker, x, 1, 1)), fails(s, api.ErrFull), goes(ioc, 0, fill(left(maker, 2), ioc, 1, 2)), fails(post, api.ErrFull))
	holdBook(t, m, api.MaxBook, 50, 2)
	holdWaiting(t, m)
}
