package change_test

import (
	"slices"
	"testing"

	"jobber/api"
	"jobber/stops"
)

// P12.1, P12.4: orders that rest. Nothing is traded unless a test looks who
// gives first.

// nine are three levels of three orders each, in the order in which they stand
// on their side: firm 1 + i%3, id 1 + i/3.
func nine(turn func(api.Order) api.Order) []api.Order {
	var all []api.Order
	for i := range 9 {
		all = append(all, turn(sell(1+i%3, 1+i/3, 50+2*(i/3), 5+i)))
	}
	return all
}

// others are a side of two levels that stands against the nine, and two orders
// that wait.
func others(turn func(api.Order) api.Order) (against, waiting []api.Order) {
	return []api.Order{turn(buy(4, 1, 40, 3)), turn(buy(4, 2, 39, 2))},
		[]api.Order{turn(behind(70, buy(5, 1, 60, 6))), turn(behind(20, sell(5, 2, 60, 7)))}
}

func marketOfNine(t *testing.T, turn func(api.Order) api.Order) *stops.Market {
	t.Helper()
	against, waiting := others(turn)
	return marketOf(t, slices.Concat(nine(turn), against, waiting)...)
}

// holdNine holds that the side of the nine is as it is wanted, in place and in
// what is seen, and that nothing else has changed.
func holdNine(t *testing.T, m *stops.Market, turn func(api.Order) api.Order, want []api.Order) {
	t.Helper()
	against, waiting := others(turn)
	if want[0].Side == api.Buy {
		holdAll(t, m, slices.Concat(want, against, waiting)...)
	} else {
		holdAll(t, m, slices.Concat(against, want, waiting)...)
	}
	holdDepth(t, m, want[0].Side, depthOf(want)...)
	holdDepth(t, m, against[0].Side, depthOf(against)...)
	holdBook(t, m, 11, 0, 0)
}

// depthOf works the depth out of orders of which nothing was taken.
func depthOf(orders []api.Order) []int {
	var pairs []int
	for _, o := range orders {
		n := len(pairs)
		if n == 0 || pairs[n-2] != o.Price {
			pairs = append(pairs, o.Price, 0)
			n += 2
		}
		pairs[n-1] += seen(o)
	}
	return pairs
}

func seen(o api.Order) int {
	if o.Show > 0 {
		return min(o.Show, o.Qty)
	}
	return o.Qty
}

// inPlace are the orders with to in the place of the i-th.
func inPlace(orders []api.Order, i int, to api.Order) []api.Order {
	return slices.Concat(orders[:i], []api.Order{to}, orders[i+1:])
}

// atTheEnd are the orders with to instead of the i-th, last at its price.
func atTheEnd(orders []api.Order, i int, to api.Order) []api.Order {
	all := append(without(orders, i), to)
	slices.SortStableFunc(all, func(a, b api.Order) int {
		if a.Side == api.Buy {
			return b.Price - a.Price
		}
		return a.Price - b.Price
	})
	return all
}

// holdGive holds that the orders give one behind the other, each whole, to one
// that takes all of them.
func holdGive(t *testing.T, m *stops.Market, orders []api.Order) {
	t.Helper()
	taker := as(api.Market, api.Order{Trader: 31, Id: 99, Firm: 7, Side: api.Buy + api.Sell - orders[0].Side})
	for _, o := range orders {
		taker.Qty += o.Qty
	}
	rest, first := taker.Qty, m.Book().No()
	want := goes(taker, 0)
	for i, o := range orders {
		want.Fills = append(want.Fills, fill(o, left(taker, rest), o.Qty, first+1+i))
		rest -= o.Qty
	}
	holdOutcomes(t, m.Add(taker)[:1], want)
}

// quantitiesOf are some that are less, the same one, and some that are more.
func quantitiesOf(o api.Order) []int {
	return []int{1, o.Qty - 1, o.Qty, o.Qty + 1, 2 * o.Qty, 9000}
}

// At its price: with less or the same it keeps its place, with more it goes to
// the end of its level.
func TestAnotherQuantityAtItsPrice(t *testing.T) {
	for _, turn := range turns() {
		for i, o := range nine(turn) {
			for _, qty := range quantitiesOf(o) {
				m, to := marketOfNine(t, turn), left(o, qty)
				var want []api.Order
				if qty <= o.Qty {
					want = inPlace(nine(turn), i, to)
					holdLess(t, m, o, qty)
				} else {
					want = atTheEnd(nine(turn), i, to)
					holdAmend(t, m, rests(to, qty))
				}
				holdNine(t, m, turn, want)
				holdGive(t, m, want)
			}
		}
	}
}

// At another price it goes to the end there, whatever its quantity: ahead of,
// between and behind the levels there are, and into one of them.
func TestAnotherPrice(t *testing.T) {
	for _, turn := range turns() {
		for i, o := range nine(turn) {
			for _, price := range []int{49, 50, 51, 52, 53, 54, 55} {
				to := at(turn(sell(1, 1, price, 1)).Price, o)
				if to.Price == o.Price {
					continue
				}
				for _, qty := range quantitiesOf(o) {
					to.Qty = qty
					m, want := marketOfNine(t, turn), atTheEnd(nine(turn), i, to)
					holdAmend(t, m, rests(to, qty))
					holdNine(t, m, turn, want)
					holdGive(t, m, want)
				}
			}
		}
	}
}

// There and back again: its place is lost.
func TestAPlaceThatWasLostIsNotFoundAgain(t *testing.T) {
	for _, turn := range turns() {
		all := nine(turn)
		m, a := marketOfNine(t, turn), all[0]
		holdAmend(t, m, rests(at(a.Price+1, a), 5))
		holdAmend(t, m, rests(a, 5))
		all = atTheEnd(all, 0, a)
		holdNine(t, m, turn, all)
		holdAmend(t, m, rests(left(all[0], 7), 7))
		holdLess(t, m, all[0], all[0].Qty)
		all = atTheEnd(all, 0, left(all[0], 7))
		all[2].Qty = 6
		holdNine(t, m, turn, all)
		holdGive(t, m, all)
	}
}

// One step down behind the other: it keeps its place with each, and what went
// does not come back.
func TestLessAndLess(t *testing.T) {
	for _, turn := range turns() {
		for i, o := range nine(turn) {
			m := marketOfNine(t, turn)
			for qty := o.Qty; qty >= 1; qty-- {
				holdLess(t, m, o, qty)
				holdLess(t, m, o, qty)
				holdNine(t, m, turn, inPlace(nine(turn), i, left(o, qty)))
			}
			holdRefused(t, m, o.Trader, o.Id, o.Price, 0, api.ErrArg)
			// Two are more than the one that it stands with now.
			holdAmend(t, m, rests(left(o, 2), 2))
			holdNine(t, m, turn, atTheEnd(nine(turn), i, left(o, 2)))
		}
	}
}

// What was traded counts as little as what was taken off: its quantity is what
// it stands with.
func TestAnOrderOfWhichAPartWasTraded(t *testing.T) {
	for _, turn := range turns() {
		a, c := turn(sell(1, 1, 50, 9)), turn(sell(2, 1, 50, 4))
		for _, qty := range []int{1, 5, 6} {
			m := marketOf(t, a, c)
			m.Add(turn(buy(3, 1, 50, 3)))
			holdLess(t, m, a, qty)
			holdAll(t, m, left(a, qty), c)
			holdBook(t, m, 2, a.Price, 1)
			holdGive(t, m, []api.Order{left(a, qty), c})
		}
		for _, qty := range []int{7, 9, 20} {
			m := marketOf(t, a, c)
			m.Add(turn(buy(3, 1, 50, 3)))
			holdAmend(t, m, rests(left(a, qty), qty))
			holdAll(t, m, c, left(a, qty))
			holdBook(t, m, 2, a.Price, 1)
			holdGive(t, m, []api.Order{c, left(a, qty)})
		}
	}
}

// A Post that rests is amended as a Limit is.
func TestAPostThatRests(t *testing.T) {
	for _, turn := range turns() {
		p, c, d := turn(as(api.Post, sell(1, 1, 50, 5))), turn(sell(2, 1, 50, 4)), turn(buy(3, 1, 48, 3))
		m := marketOf(t, p, c, d)
		holdLess(t, m, p, 3)
		holdGive(t, m, []api.Order{left(p, 3), c})
		m = marketOf(t, p, c, d)
		holdAmend(t, m, rests(left(p, 6), 6))
		holdGive(t, m, []api.Order{c, left(p, 6)})
		m = marketOf(t, p, c, d)
		to := turn(as(api.Post, sell(1, 1, 49, 5)))
		holdAmend(t, m, rests(to, 5))
		holdGive(t, m, []api.Order{to, c})
	}
}

// Orders with a Show.

// holdIceberg holds the orders at 50 and what is seen there, turned as well.
func holdIceberg(t *testing.T, m *stops.Market, turn func(api.Order) api.Order, depth int, want ...api.Order) {
	t.Helper()
	holdAll(t, m, want...)
	price := turn(sell(1, 1, 50, 1)).Price
	holdDepth(t, m, want[0].Side, price, depth)
}

// Its Show above, at and below the quantity it is reduced to: it stays as it
// was, and no more is seen than there is.
func TestLessOfAnIceberg(t *testing.T) {
	for _, turn := range turns() {
		for _, show := range []int{1, 4, 8, 9} {
			a, c := turn(showing(sell(1, 1, 50, 9), show)), turn(sell(2, 1, 50, 5))
			m := marketOf(t, a, c)
			for qty := 9; qty >= 1; qty-- {
				holdLess(t, m, a, qty)
				holdIceberg(t, m, turn, min(qty, show)+5, left(a, qty), c)
			}
			for _, qty := range []int{0, -1} {
				holdRefused(t, m, a.Trader, a.Id, a.Price, qty, api.ErrArg)
			}
		}
	}
}

// Where it is moved its Show is at most its quantity, and it is seen anew.
func TestAnIcebergThatIsMoved(t *testing.T) {
	for _, turn := range turns() {
		for _, show := range []int{1, 4, 8, 9} {
			a, c := turn(showing(sell(1, 1, 50, 9), show)), turn(sell(2, 1, 50, 5))
			for _, qty := range []int{10, 11, 99, api.MaxQty} {
				m := marketOf(t, a, c)
				holdAmend(t, m, rests(left(a, qty), qty))
				holdIceberg(t, m, turn, show+5, c, left(a, qty))
			}
			for _, qty := range []int{1, 3, 4, 5, 7, 8, 9, 10, 99} {
				m, to := marketOf(t, a, c), turn(showing(sell(1, 1, 49, qty), min(show, qty)))
				holdAmend(t, m, rests(to, qty))
				holdAll(t, m, to, c)
				holdDepth(t, m, to.Side, to.Price, min(show, qty), c.Price, 5)
			}
			m := marketOf(t, a, c)
			for _, qty := range []int{0, -1, -show, -99} {
				holdRefused(t, m, a.Trader, a.Id, a.Price, qty, api.ErrArg)
				holdRefused(t, m, a.Trader, a.Id, a.Price+1, qty, api.ErrArg)
			}
		}
	}
}

// A Show that was reduced with a move does not grow again.
func TestAShowThatWasReduced(t *testing.T) {
	for _, turn := range turns() {
		a, c := turn(showing(sell(1, 1, 50, 9), 6)), turn(sell(2, 1, 50, 5))
		m := marketOf(t, a, c)
		holdAmend(t, m, rests(turn(showing(sell(1, 1, 51, 4), 4)), 4))
		holdAmend(t, m, rests(turn(showing(sell(1, 1, 50, 12), 4)), 12))
		holdIceberg(t, m, turn, 9, c, turn(showing(sell(1, 1, 50, 12), 4)))
		// But one that only stands with less keeps it.
		m = marketOf(t, a, c)
		holdLess(t, m, a, 2)
		holdAmend(t, m, rests(turn(showing(sell(1, 1, 50, 5), 5)), 5))
		m = marketOf(t, a, c)
		holdLess(t, m, a, 2)
		holdAmend(t, m, rests(left(a, 8), 8))
		holdIceberg(t, m, turn, 11, c, left(a, 8))
		m = marketOf(t, a, c)
		holdLess(t, m, a, 2)
		holdAmend(t, m, rests(turn(showing(sell(1, 1, 51, 1), 1)), 1))
	}
}

// Of what it shows a part was taken: with less nothing is shown anew, and with
// a move all is.
func TestAnIcebergOfWhichAPartWasTaken(t *testing.T) {
	for _, turn := range turns() {
		a, c := turn(showing(sell(1, 1, 50, 9), 4)), turn(sell(2, 1, 50, 5))
		taken := func() *stops.Market {
			m, x := marketOf(t, a, c), turn(as(api.IOC, buy(3, 1, 50, 3)))
			holdAdd(t, m, goes(x, 0, fill(a, x, 3, 1)))
			holdIceberg(t, m, turn, 6, left(a, 6), c)
			return m
		}
		for _, qty := range []int{6, 5, 2, 1} {
			m := taken()
			holdLess(t, m, a, qty)
			holdIceberg(t, m, turn, 6, left(a, qty), c)
			x := turn(as(api.IOC, buy(3, 2, 50, 2)))
			holdAdd(t, m, goes(x, 0, fill(left(a, qty), x, 1, 2), fill(c, left(x, 1), 1, 3)))
		}
		for _, qty := range []int{7, 9} {
			m := taken()
			holdAmend(t, m, rests(left(a, qty), qty))
			holdIceberg(t, m, turn, 9, c, left(a, qty))
		}
		for _, qty := range []int{1, 3, 5, 6, 7} {
			m, to := taken(), turn(showing(sell(1, 1, 51, qty), min(4, qty)))
			holdAmend(t, m, rests(to, qty))
			holdAll(t, m, c, to)
			holdDepth(t, m, to.Side, c.Price, 5, to.Price, min(4, qty))
		}
	}
}

// A full market: an order that is changed has room, since it made it.
func TestAFullMarket(t *testing.T) {
	for _, turn := range turns() {
		var orders []api.Order
		for i := range api.MaxBook / 2 {
			orders = append(orders, turn(sell(1, i, 50+i%3, 5)))
		}
		for i := range api.MaxBook / 2 {
			orders = append(orders, turn(behind(80, buy(2, i, 70, 5))))
		}
		m := marketOf(t, orders...)
		for _, o := range orders {
			for _, to := range []api.Order{left(o, 4), left(o, 6), at(o.Price+1, o), left(at(o.Price-1, o), 3)} {
				if o.Stop == 0 && to.Price == o.Price && to.Qty < 5 {
					holdLess(t, m, o, to.Qty)
				} else {
					holdAmend(t, m, stays(to))
				}
				if got, ok := m.Find(o.Trader, o.Id); got != to || !ok || m.Len() != api.MaxBook {
					t.Errorf("%+v, of %d", got, m.Len())
				}
			}
		}
	}
}

// By direct changes of the book there may be more orders than MaxBook: then
// one that is changed may keep its place but finds no other.
func TestAMarketThatIsMoreThanFull(t *testing.T) {
	m := stops.New()
	for i := range api.MaxBook {
		holdAdd(t, m, waits(behind(80, buy(2, i, 70, 5))))
	}
	a, c := sell(1, 1, 50, 5), sell(1, 2, 50, 5)
	m.Book().Add(a)
	m.Book().Add(c)
	holdLess(t, m, a, 4)
	holdAmend(t, m, fails(left(a, 5), api.ErrFull))
	holdDepth(t, m, api.Sell, 50, 5)
	holdAmend(t, m, fails(left(behind(80, buy(2, 3, 70, 5)), 4), api.ErrFull))
	holdAmend(t, m, rests(left(c, 6), 6))
	if m.Len() != api.MaxBook {
		t.Errorf("Len() = %d", m.Len())
	}
}
