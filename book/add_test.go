package book_test

import (
	"testing"

	"jobber/api"
	"jobber/book"
)

// P10.3, the errors. A book of sells by firm 1 at 50 to 52 and buys by firm 2
// at 38 to 40; each fault is laid upon an order of firm 3 that has none.

// fault makes an order one that gets this error, in a book that is full or has
// room for one.
type fault struct {
	err  api.Errno
	lay  func(*api.Order)
	full bool
}

func notRight() fault { return fault{api.ErrArg, func(o *api.Order) { o.Firm = -1 }, false} }
func withStop() fault { return fault{api.ErrArg, func(o *api.Order) { o.Stop = 45 }, false} }
func there() fault    { return fault{api.ErrThere, func(o *api.Order) { o.Trader, o.Id = 11, 3 }, false} }
func noRoom() fault   { return fault{api.ErrFull, func(*api.Order) {}, true} }
func takes() fault    { return fault{api.ErrTake, func(o *api.Order) { o.Price = 50 }, false} }
func unfilled() fault { return fault{api.ErrFill, func(o *api.Order) { o.Qty = 1 << 20 }, false} }

// faultless rests, or trades, as a buy by firm 3.
func faultless(kind int) api.Order {
	if kind == api.Limit || kind == api.Post {
		return as(kind, buy(3, 900, 45, 1))
	}
	return as(kind, buy(3, 900, 50, 1))
}

// faultsOf are the faults that this kind can have, in the order of their errors.
func faultsOf(kind int) []fault {
	switch kind {
	case api.Limit:
		return []fault{notRight(), withStop(), there(), noRoom()}
	case api.Post:
		return []fault{notRight(), withStop(), there(), noRoom(), takes()}
	case api.FOK:
		return []fault{notRight(), withStop(), there(), unfilled()}
	}
	return []fault{notRight(), withStop(), there()}
}

// almostFull has room for one order more.
func almostFull(t *testing.T) *book.Book {
	t.Helper()
	b := fullBook(t)
	b.Remove(12, 31)
	return b
}

// holdRefused lays these faults upon an order of this kind, and holds that the
// first of them is told and that nothing changes.
func holdRefused(t *testing.T, kind int, faults ...fault) {
	t.Helper()
	o, b := faultless(kind), almostFull(t)
	for _, f := range faults {
		f.lay(&o)
		if f.full {
			b = fullBook(t)
		}
	}
	before := pictureOf(b)
	holdAdd(t, b, o, api.Outcome{Left: o.Qty, Err: faults[0].err})
	holdPicture(t, b, before)
	holdAdd(t, b, o, api.Outcome{Left: o.Qty, Err: faults[0].err})
	holdPicture(t, b, before)
}

func TestWithoutAFault(t *testing.T) {
	for _, kind := range kinds() {
		o, b := faultless(kind), almostFull(t)
		if got := b.Add(o); got.Err != api.OK || got.Rests != (len(got.Fills) == 0) {
			t.Errorf("kind %d: %+v", kind, got)
		}
	}
}

func TestEachErrorAlone(t *testing.T) {
	for _, kind := range kinds() {
		for _, f := range faultsOf(kind) {
			holdRefused(t, kind, f)
		}
	}
}

func TestEachErrorBesideEachBehindIt(t *testing.T) {
	for _, kind := range kinds() {
		faults := faultsOf(kind)
		for i := range faults {
			for j := range i {
				holdRefused(t, kind, faults[j], faults[i])
			}
			holdRefused(t, kind, faults[i:]...)
		}
	}
}

// A book behind trades has a Last and a No that could change.
func TestErrorsChangeNothingBehindATrade(t *testing.T) {
	b := bookOf(t, showing(sell(1, 1, 10, 9), 4), sell(2, 1, 11, 3), buy(3, 1, 8, 2))
	b.Add(buy(4, 1, 10, 3))
	before := pictureOf(b)
	stop := buy(4, 1, 10, 3)
	stop.Stop = 1
	for _, c := range []struct {
		o   api.Order
		err api.Errno
	}{
		{left(buy(4, 1, 10, 3), 0), api.ErrArg},
		{buy(4, 1, 0, 3), api.ErrArg},
		{showing(as(api.IOC, buy(4, 1, 10, 3)), 1), api.ErrArg},
		{stop, api.ErrArg},
		{sell(1, 1, 10, 3), api.ErrThere},
		{buy(3, 1, 11, 3), api.ErrThere},
		{as(api.Post, buy(4, 1, 10, 3)), api.ErrTake},
		{as(api.Post, sell(4, 1, 8, 3)), api.ErrTake},
		{as(api.FOK, buy(4, 1, 10, 7)), api.ErrFill},
		{as(api.FOK, buy(4, 1, 11, 10)), api.ErrFill},
		{as(api.FOK, sell(4, 1, 8, 3)), api.ErrFill},
	} {
		holdAdd(t, b, c.o, api.Outcome{Left: c.o.Qty, Err: c.err})
		holdPicture(t, b, before)
	}
}

// A Stop is refused also where it would be triggered at once.
func TestEveryStopIsRefused(t *testing.T) {
	b := bookOf(t, sell(1, 1, 10, 9))
	b.Add(buy(2, 1, 10, 1))
	for _, kind := range kinds() {
		for _, stop := range []int{1, 9, 10, 11, api.MaxPrice} {
			for _, o := range []api.Order{as(kind, buy(3, 1, 10, 1)), as(kind, sell(3, 1, 11, 1))} {
				o.Stop = stop
				holdAdd(t, b, o, api.Outcome{Left: 1, Err: api.ErrArg})
			}
		}
	}
	holdCounts(t, b, 1, 10, 1)
}

// Trader and Id name an order together, on whichever side it rests, and as long
// as it does.
func TestThere(t *testing.T) {
	a, c := sell(1, 1, 10, 5), buy(2, 2, 9, 5)
	b := bookOf(t, a, c)
	for _, kind := range kinds() {
		for _, o := range []api.Order{sell(1, 1, 20, 1), buy(1, 1, 5, 1), sell(2, 2, 20, 1), buy(2, 2, 5, 1)} {
			holdAdd(t, b, as(kind, o), api.Outcome{Left: 1, Err: api.ErrThere})
		}
	}
	holdRests(t, b, sell(1, 2, 10, 1))
	holdRests(t, b, sell(2, 1, 10, 1))
	holdSide(t, b, api.Sell, a, sell(1, 2, 10, 1), sell(2, 1, 10, 1))
	// Whose order is taken whole, or removed, may use the number again; so may
	// one whose order never rested.
	b.Add(buy(3, 1, 10, 5))
	holdRests(t, b, sell(1, 1, 10, 2))
	holdAdd(t, b, sell(1, 1, 10, 2), api.Outcome{Left: 2, Err: api.ErrThere})
	b.Remove(11, 1)
	holdRests(t, b, sell(1, 1, 11, 2))
	holdRests(t, b, buy(3, 1, 8, 1))
	b.Less(13, 1, 1)
	holdAdd(t, b, buy(3, 1, 8, 1), api.Outcome{Left: 1, Err: api.ErrThere})
}

// The firm is not asked: a trader is of one firm.
func TestThereWhateverTheFirm(t *testing.T) {
	b := bookOf(t, sell(1, 1, 10, 5))
	o := sell(1, 1, 10, 5)
	o.Firm = 2
	holdAdd(t, b, o, api.Outcome{Left: 5, Err: api.ErrThere})
}

func TestAFullBook(t *testing.T) {
	for _, side := range []int{api.Buy, api.Sell} {
		for _, price := range []int{1, 39, 40, 45, 50, 51, api.MaxPrice} {
			for _, kind := range []int{api.Limit, api.Post} {
				for _, qty := range []int{1, 2, 1 << 20} {
					b := fullBook(t)
					before := pictureOf(b)
					o := as(kind, buy(3, 900, price, qty))
					o.Side = side
					holdAdd(t, b, o, api.Outcome{Left: qty, Err: api.ErrFull})
					holdPicture(t, b, before)
				}
			}
		}
	}
}

func TestAFullBookTakesWhatNeverRests(t *testing.T) {
	first, second := sell(1, 0, 50, 2), sell(1, 3, 50, 2)
	for _, kind := range []int{api.Market, api.IOC, api.FOK} {
		b := fullBook(t)
		o := as(kind, buy(3, 900, 50, 1))
		holdAdd(t, b, o, api.Outcome{Fills: []api.Fill{fill(first, o, 1, 1)}})
		holdCounts(t, b, api.MaxBook, 50, 1)
		holdAdd(t, b, buy(3, 901, 45, 1), api.Outcome{Left: 1, Err: api.ErrFull})
		holdAdd(t, b, o, api.Outcome{Fills: []api.Fill{fill(left(first, 1), o, 1, 2)}})
		holdCounts(t, b, api.MaxBook-1, 50, 2)
		holdRests(t, b, buy(3, 901, 45, 1))
		holdAdd(t, b, buy(3, 902, 45, 1), api.Outcome{Left: 1, Err: api.ErrFull})
		o = left(o, 2)
		holdAdd(t, b, o, api.Outcome{Fills: []api.Fill{fill(second, o, 2, 3)}})
		holdCounts(t, b, api.MaxBook-1, 50, 3)
	}
	b := fullBook(t)
	holdAdd(t, b, as(api.IOC, buy(3, 900, 49, 1)), api.Outcome{Left: 1})
	holdAdd(t, b, as(api.FOK, buy(3, 900, 49, 1)), api.Outcome{Left: 1, Err: api.ErrFill})
	holdCounts(t, b, api.MaxBook, 0, 0)
}

// All may rest on one side, at one price or at as many as there are orders.
func TestAFullSide(t *testing.T) {
	for _, step := range []int{0, 1} {
		b := book.New()
		for i := range api.MaxBook {
			holdRests(t, b, sell(1, i, 100-step*i, 1))
		}
		holdCounts(t, b, api.MaxBook, 0, 0)
		holdAdd(t, b, sell(1, 100, 100, 1), api.Outcome{Left: 1, Err: api.ErrFull})
		holdAdd(t, b, buy(2, 1, 1, 1), api.Outcome{Left: 1, Err: api.ErrFull})
		b.Remove(11, 20)
		holdRests(t, b, buy(2, 1, 1, 1))
		holdAdd(t, b, buy(2, 2, 1, 1), api.Outcome{Left: 1, Err: api.ErrFull})
		holdCounts(t, b, api.MaxBook, 0, 0)
	}
}

// With room for one a Limit may trade with many and rest.
func TestTheLastRoom(t *testing.T) {
	b := almostFull(t)
	o := buy(3, 900, 50, 23)
	got := b.Add(o)
	if got.Err != api.OK || len(got.Fills) != 11 || got.Left != 1 || !got.Rests {
		t.Errorf("%+v", got)
	}
	holdCounts(t, b, api.MaxBook-1-11+1, 50, 11)
}

func TestPostAtTheBestPriceOfTheOtherSide(t *testing.T) {
	for _, turn := range []func(api.Order) api.Order{func(o api.Order) api.Order { return o }, turned} {
		for _, c := range []struct {
			price int
			err   api.Errno
		}{{49, api.OK}, {50, api.ErrTake}, {51, api.ErrTake}, {1, api.OK}, {99, api.ErrTake}, {52, api.ErrTake}} {
			b := bookOf(t, turn(sell(1, 1, 52, 1)), turn(sell(1, 2, 50, 1)))
			o := turn(as(api.Post, buy(2, 1, c.price, 9)))
			before := pictureOf(b)
			if c.err == api.OK {
				holdRests(t, b, o)
				holdSide(t, b, o.Side, o)
				continue
			}
			holdAdd(t, b, o, api.Outcome{Left: 9, Err: c.err})
			holdPicture(t, b, before)
		}
	}
}

// A Post is not matched, so neither its own firm nor a hidden part saves it.
func TestPostBesideItsOwnFirm(t *testing.T) {
	b := bookOf(t, showing(sell(1, 1, 50, 9), 1), buy(1, 2, 40, 3))
	holdAdd(t, b, as(api.Post, buy(1, 3, 50, 1)), api.Outcome{Left: 1, Err: api.ErrTake})
	holdAdd(t, b, as(api.Post, sell(1, 3, 40, 1)), api.Outcome{Left: 1, Err: api.ErrTake})
	holdRests(t, b, showing(as(api.Post, buy(1, 3, 49, 5)), 2))
	holdDepth(t, b, api.Buy, 49, 2, 40, 3)
	// Nor do levels that are gone count.
	b.Remove(11, 1)
	holdRests(t, b, as(api.Post, buy(1, 4, 50, 1)))
}
