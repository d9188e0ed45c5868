package stops_test

import (
	"testing"

	"jobber/api"
	"jobber/stops"
)

// P11.2, the errors. In a market sells by firm 1 rest from 50 on, buys by firm 2
// wait behind 90, and the last trade was at 45; each fault is laid upon a buy of
// firm 3 that has none.

// fault makes an order one that gets this error, in a market that is full or
// has room for one.
type fault struct {
	err  api.Errno
	lay  func(*api.Order)
	full bool
}

func notRight() fault { return fault{api.ErrArg, func(o *api.Order) { o.Firm = -1 }, false} }
func restsThere() fault {
	return fault{api.ErrThere, func(o *api.Order) { o.Trader, o.Id = 11, 3 }, false}
}
func waitsThere() fault {
	return fault{api.ErrThere, func(o *api.Order) { o.Trader, o.Id = 12, 3 }, false}
}
func noRoom() fault   { return fault{api.ErrFull, func(*api.Order) {}, true} }
func takes() fault    { return fault{api.ErrTake, func(o *api.Order) { o.Price = 50 }, false} }
func unfilled() fault { return fault{api.ErrFill, func(o *api.Order) { o.Qty = 1 << 20 }, false} }

// faultless is an order of this kind behind this Stop, which is accepted.
func faultless(kind, stop int) api.Order {
	if kind == api.Limit || kind == api.Post {
		return as(kind, behind(stop, buy(3, 900, 46, 1)))
	}
	return as(kind, behind(stop, buy(3, 900, 50, 1)))
}

// faultsOf are the faults that an order of this kind behind this Stop can
// have, in the order of their errors: one that waits is not asked by the book.
func faultsOf(kind, stop int) []fault {
	faults := []fault{notRight(), restsThere(), waitsThere()}
	if stop > 0 || kind == api.Limit || kind == api.Post {
		faults = append(faults, noRoom())
	}
	if kind == api.Post && stop <= 45 {
		faults = append(faults, takes())
	}
	if kind == api.FOK && stop <= 45 {
		faults = append(faults, unfilled())
	}
	return faults
}

// filled holds n orders, of which those that rest are this many, behind a
// trade at 45.
func filled(t *testing.T, n, resting int) *stops.Market {
	t.Helper()
	m := stops.New()
	trade(t, m, 45)
	for i := range n {
		if i < resting {
			holdComes(t, m, sell(1, i, 50+i%3, 2))
		} else {
			holdComes(t, m, behind(90, buy(2, i-resting, 1, 2)))
		}
	}
	return m
}

// holdRefused lays these faults upon an order, and holds that the first of
// them is told and that nothing changes.
func holdRefused(t *testing.T, kind, stop int, faults ...fault) {
	t.Helper()
	o, n := faultless(kind, stop), api.MaxBook-1
	for _, f := range faults {
		f.lay(&o)
		if f.full {
			n = api.MaxBook
		}
	}
	m := filled(t, n, api.MaxBook/2)
	before := pictureOf(m)
	for range 2 {
		holdAdd(t, m, fails(o, faults[0].err))
		holdPicture(t, m, before)
	}
}

// stopsToTry: none, one that is triggered as the order arrives, and one that
// is not.
func stopsToTry() []int { return []int{0, 45, 46} }

func TestWithoutAFault(t *testing.T) {
	for _, kind := range kinds() {
		for _, stop := range stopsToTry() {
			m := filled(t, api.MaxBook-1, api.MaxBook/2)
			o := faultless(kind, stop)
			switch {
			case stop == 46:
				holdAdd(t, m, waits(o))
			case kind == api.Limit || kind == api.Post:
				holdAdd(t, m, rests(o, 1))
			default:
				// Firm 1's sells at 50, of which the first one gives.
				holdAdd(t, m, goes(o, 0, fill(sell(1, 0, 50, 2), o, 1, 2)))
			}
		}
	}
}

func TestEachErrorAlone(t *testing.T) {
	for _, kind := range kinds() {
		for _, stop := range stopsToTry() {
			for _, f := range faultsOf(kind, stop) {
				holdRefused(t, kind, stop, f)
			}
		}
	}
}

func TestEachErrorBesideEachBehindIt(t *testing.T) {
	for _, kind := range kinds() {
		for _, stop := range stopsToTry() {
			faults := faultsOf(kind, stop)
			for i := range faults {
				for j := range i {
					holdRefused(t, kind, stop, faults[j], faults[i])
				}
				holdRefused(t, kind, stop, faults[i:]...)
			}
		}
	}
}

// Every field of an order can be wrong, with a Stop and without.
func TestOrdersThatAreNotRight(t *testing.T) {
	m := filled(t, 8, 4)
	before := pictureOf(m)
	for _, stop := range stopsToTry() {
		o := behind(stop, buy(3, 1, 46, 5))
		for _, wrong := range []api.Order{
			left(o, 0), left(o, api.MaxQty+1), showing(o, 6), showing(o, -1),
			behind(stop, buy(3, 1, 0, 5)), behind(stop, buy(3, 1, api.MaxPrice+1, 5)), behind(stop, buy(3, -1, 46, 5)),
			behind(stop, buy(8, 1, 46, 5)), as(0, o), as(6, o), behind(-1, o), behind(api.MaxPrice+1, o),
			behind(stop, showing(as(api.IOC, o), 1)), {},
		} {
			holdAdd(t, m, fails(wrong, api.ErrArg))
			holdPicture(t, m, before)
		}
	}
}

// What the book refuses at once is refused with the Stop that the order has.
func TestWhatTheBookRefuses(t *testing.T) {
	for _, turn := range turns() {
		m := marketOf(t, turn(sell(1, 1, 50, 5)), turn(behind(60, buy(2, 1, 1, 5))))
		x := turn(as(api.IOC, buy(3, 1, 50, 1)))
		m.Add(x)
		before := pictureOf(m)
		for _, stop := range []int{0, 1, 49, 50} {
			holdAdd(t, m, fails(turn(behind(stop, as(api.Post, buy(3, 1, 50, 1)))), api.ErrTake))
			holdPicture(t, m, before)
			holdAdd(t, m, fails(turn(behind(stop, as(api.FOK, buy(3, 1, 50, 5)))), api.ErrFill))
			holdPicture(t, m, before)
		}
		// Behind a Stop that is not reached they wait, whatever they would take.
		o, u := turn(behind(51, as(api.Post, buy(3, 1, 50, 1)))), turn(behind(51, as(api.FOK, buy(3, 2, 50, 5))))
		holdAdd(t, m, waits(o))
		holdAdd(t, m, waits(u))
		holdWaiting(t, m, turn(behind(60, buy(2, 1, 1, 5))), o, u)
	}
}

// ErrThere: trader and id name an order together, whatever else it is.
func TestThere(t *testing.T) {
	a, s := sell(1, 1, 50, 5), behind(60, buy(2, 2, 1, 5))
	m := marketOf(t, a, s)
	before := pictureOf(m)
	for _, kind := range kinds() {
		for _, stop := range []int{0, 1, 40, 70} {
			for _, o := range []api.Order{sell(1, 1, 70, 1), buy(1, 1, 20, 1), sell(2, 2, 70, 1), buy(2, 2, 20, 1)} {
				holdAdd(t, m, fails(as(kind, behind(stop, o)), api.ErrThere))
				o.Firm = 5
				holdAdd(t, m, fails(as(kind, behind(stop, o)), api.ErrThere))
			}
		}
	}
	holdPicture(t, m, before)
	holdComes(t, m, sell(1, 2, 50, 1))
	holdComes(t, m, behind(60, buy(2, 1, 1, 1)))
	holdComes(t, m, behind(60, buy(1, 3, 1, 1)))
	holdComes(t, m, sell(2, 3, 70, 1))
}

// Its name is free again once it neither rests nor waits.
func TestThereNoMore(t *testing.T) {
	a, s := sell(1, 1, 50, 5), behind(50, as(api.IOC, buy(2, 2, 1, 5)))
	m := marketOf(t, a, s)
	x := buy(3, 1, 50, 5)
	holdAdd(t, m, goes(x, 0, fill(a, x, 5, 1)), goes(s, 5))
	holdComes(t, m, a)
	s.Stop = 51
	holdComes(t, m, s)
	holdAdd(t, m, fails(a, api.ErrThere))
	holdAdd(t, m, fails(s, api.ErrThere))
	// One that was triggered and rests is there as well.
	u := behind(50, sell(4, 1, 60, 1))
	holdAdd(t, m, rests(u, 1))
	holdAdd(t, m, fails(u, api.ErrThere))
	holdAdd(t, m, fails(behind(9, u), api.ErrThere))
	m.Remove(14, 1)
	m.Remove(12, 2)
	holdComes(t, m, behind(9, u))
	holdComes(t, m, s)
}

// ErrFull: all rest, all wait, some do this and some that.
func TestAFullMarket(t *testing.T) {
	for _, resting := range []int{0, 1, api.MaxBook / 2, api.MaxBook - 1, api.MaxBook} {
		m := filled(t, api.MaxBook, resting)
		holdBook(t, m, resting, 45, 1)
		before := pictureOf(m)
		for _, turn := range turns() {
			for _, kind := range kinds() {
				for _, stop := range []int{1, 44, 45, 46, 89} {
					holdAdd(t, m, fails(turn(as(kind, behind(stop, buy(3, 900, 60, 1)))), api.ErrFull))
				}
			}
			for _, price := range []int{1, 46, 50, 60, 99} {
				holdAdd(t, m, fails(turn(buy(3, 900, price, 1)), api.ErrFull))
				holdAdd(t, m, fails(turn(as(api.Post, buy(3, 900, price, 1))), api.ErrFull))
			}
		}
		holdPicture(t, m, before)
		for _, kind := range []int{api.Market, api.IOC, api.FOK} {
			o := as(kind, buy(3, 900, 49, 1))
			switch {
			case kind == api.FOK:
				holdAdd(t, m, fails(o, api.ErrFill))
			case kind == api.Market && resting > 0:
				holdAdd(t, m, goes(o, 0, fill(sell(1, 0, 50, 2), o, 1, 2)))
			default:
				holdAdd(t, m, goes(o, 1))
			}
		}
		if m.Len() != api.MaxBook {
			t.Errorf("Len() = %d", m.Len())
		}
	}
}

func TestAMarketThatIsAlmostFull(t *testing.T) {
	for _, resting := range []int{0, 1, api.MaxBook / 2, api.MaxBook - 2, api.MaxBook - 1} {
		for _, stop := range stopsToTry() {
			for _, kind := range kinds() {
				m := filled(t, api.MaxBook-1, resting)
				o := as(kind, behind(stop, buy(3, 900, 46, 1)))
				got := m.Add(o)
				if len(got) != 1 || got[0].Err == api.ErrFull {
					t.Fatalf("Add = %+v", got)
				}
				if got[0].Waits || got[0].Rests {
					holdAdd(t, m, fails(buy(3, 901, 1, 1), api.ErrFull))
					m.Remove(13, 900)
				}
				holdComes(t, m, buy(3, 901, 1, 1))
				holdAdd(t, m, fails(behind(99, buy(3, 902, 1, 1)), api.ErrFull))
			}
		}
	}
}

// A Remove makes room, whether the order rested or waited, and a trade does.
func TestRoomAgain(t *testing.T) {
	m := filled(t, api.MaxBook, api.MaxBook/2)
	o, u := buy(3, 900, 46, 1), behind(46, buy(3, 901, 46, 1))
	holdAdd(t, m, fails(o, api.ErrFull))
	m.Remove(12, 5)
	holdComes(t, m, o)
	holdAdd(t, m, fails(u, api.ErrFull))
	m.Remove(11, 5)
	holdComes(t, m, u)
	holdAdd(t, m, fails(buy(3, 902, 46, 1), api.ErrFull))
	x := as(api.Market, sell(3, 903, 0, 1))
	o.Firm = 3
	holdAdd(t, m, meets(x, 1))
	x.Firm = 4
	holdAdd(t, m, goes(x, 0, fill(o, x, 1, 2)), rests(u, 1))
	holdComes(t, m, buy(3, 902, 46, 1))
	holdAdd(t, m, fails(buy(3, 904, 46, 1), api.ErrFull))
}

// By direct changes of the book there may be more orders than MaxBook.
func TestAMarketThatIsMoreThanFull(t *testing.T) {
	m := filled(t, api.MaxBook, 0)
	for i := range 3 {
		m.Book().Add(sell(1, i, 50, 2))
	}
	before := pictureOf(m)
	holdAdd(t, m, fails(buy(3, 900, 46, 1), api.ErrFull))
	holdAdd(t, m, fails(as(api.Post, buy(3, 900, 46, 1)), api.ErrFull))
	holdAdd(t, m, fails(behind(46, as(api.Market, buy(3, 900, 0, 1))), api.ErrFull))
	holdPicture(t, m, before)
	holdAdd(t, m, goes(as(api.IOC, buy(3, 900, 46, 1)), 1))
	if m.Len() != api.MaxBook+3 {
		t.Errorf("Len() = %d", m.Len())
	}
}

// P11.2, the orders that are accepted.

// An order with a Stop waits as long as the last trade has not reached it, and
// before any trade.
func TestWaitsOrNot(t *testing.T) {
	for _, c := range []struct {
		side, last, stop int
		waits            bool
	}{
		{api.Buy, 0, 1, true}, {api.Buy, 0, 45, true}, {api.Buy, 0, api.MaxPrice, true},
		{api.Buy, 44, 45, true}, {api.Buy, 45, 45, false}, {api.Buy, 46, 45, false},
		{api.Buy, 1, 45, true}, {api.Buy, 99, 45, false}, {api.Buy, 1, 1, false}, {api.Buy, 99, 1, false},
		{api.Sell, 0, 1, true}, {api.Sell, 0, 45, true}, {api.Sell, 0, api.MaxPrice, true},
		{api.Sell, 44, 45, false}, {api.Sell, 45, 45, false}, {api.Sell, 46, 45, true},
		{api.Sell, 1, 45, false}, {api.Sell, 99, 45, true}, {api.Sell, 1, 1, false}, {api.Sell, 99, 100, false},
	} {
		m := stops.New()
		if c.last > 0 {
			trade(t, m, c.last)
		}
		o := behind(c.stop, buy(3, 1, 30, 7))
		o.Side = c.side
		if c.waits {
			holdAdd(t, m, waits(o))
			holdAll(t, m, o)
			holdWaiting(t, m, o)
		} else {
			holdAdd(t, m, rests(o, 7))
			holdAll(t, m, behind(0, o))
			holdWaiting(t, m)
		}
	}
}

// Any kind may wait, and none is looked at before its time: what it would
// trade with, or that it could not, is all one.
func TestEveryKindWaits(t *testing.T) {
	for _, turn := range turns() {
		a, c := turn(sell(1, 1, 50, 5)), turn(buy(1, 2, 40, 5))
		m := marketOf(t, a, c)
		var waiting []api.Order
		for i, kind := range kinds() {
			for k, qty := range []int{1, 5, 9} {
				o := turn(as(kind, behind(70, buy(1+k, 10+i, 60, qty))))
				holdAdd(t, m, waits(o))
				waiting = append(waiting, o)
			}
		}
		o := turn(behind(30, showing(sell(4, 1, 45, 9), 3)))
		holdAdd(t, m, waits(o))
		holdWaiting(t, m, append(waiting, o)...)
		holdBook(t, m, 2, 0, 0)
	}
}

// reachedAt50 are a market's resting orders, an order that trades 1 at 50 with
// the first of them, and what orders of each kind behind a Stop at 50 come to
// then.
func reachedAt50(turn func(api.Order) api.Order) (resting []api.Order, first api.Outcome, wants []api.Outcome) {
	a, c := turn(sell(1, 1, 50, 5)), turn(sell(2, 1, 52, 5))
	x := turn(as(api.IOC, buy(4, 1, 50, 1)))
	// What is left of a, given to an order of 4 or more.
	all := func(o api.Order) api.Fill { return fill(left(a, 4), o, 4, 2) }
	limit, deep := turn(behind(50, buy(3, 1, 51, 9))), turn(behind(50, buy(3, 1, 49, 9)))
	market, ioc := turn(behind(50, as(api.Market, buy(3, 1, 0, 4)))), as(api.IOC, limit)
	fok, more := as(api.FOK, left(limit, 4)), as(api.FOK, left(limit, 5))
	post, taker, own := as(api.Post, deep), as(api.Post, limit), turn(behind(50, buy(1, 2, 51, 5)))
	return []api.Order{a, c}, goes(x, 0, fill(a, x, 1, 1)), []api.Outcome{
		rests(limit, 5, all(limit)), rests(deep, 9), goes(market, 0, all(market)), goes(ioc, 5, all(ioc)),
		goes(fok, 0, all(fok)), fails(more, api.ErrFill), rests(post, 9), fails(taker, api.ErrTake), meets(own, 5),
	}
}

// holdCameTo holds that an order with this Outcome rests without its Stop or is
// gone, and that none waits.
func holdCameTo(t *testing.T, m *stops.Market, out api.Outcome) {
	t.Helper()
	holdWaiting(t, m)
	want, o := api.Order{}, out.Order
	if out.Rests {
		want = behind(0, left(o, out.Left))
	}
	holdFind(t, m, o.Trader, o.Id, want, out.Rests)
}

// Each kind that is triggered as it arrives does what it does without a Stop,
// and its Outcome bears the Stop.
func TestEachKindThatIsTriggeredAsItArrives(t *testing.T) {
	for _, turn := range turns() {
		resting, first, wants := reachedAt50(turn)
		for _, want := range wants {
			m := marketOf(t, resting...)
			holdAdd(t, m, first)
			holdAdd(t, m, want)
			holdCameTo(t, m, want)
		}
	}
}

// Of the order that rests at once, Show is cut as the book cuts it.
func TestAnIcebergBehindAStopThatIsReached(t *testing.T) {
	a := sell(1, 1, 50, 5)
	m := marketOf(t, a)
	trade(t, m, 45)
	o := behind(45, showing(buy(3, 1, 50, 9), 6))
	holdAdd(t, m, rests(o, 4, fill(a, o, 5, 2)))
	holdAll(t, m, showing(left(behind(0, o), 4), 4))
}
