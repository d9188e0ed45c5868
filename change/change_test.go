package change_test

import (
	"math"
	"slices"
	"testing"

	"jobber/api"
	"jobber/change"
	"jobber/order"
	"jobber/stops"
)

// sell and buy are limits of trader 10 + firm, so that no test mixes the two up.
func sell(firm, id, price, qty int) api.Order {
	return api.Order{Trader: 10 + firm, Id: id, Firm: firm, Side: api.Sell, Kind: api.Limit, Price: price, Qty: qty}
}

func buy(firm, id, price, qty int) api.Order {
	o := sell(firm, id, price, qty)
	o.Side = api.Buy
	return o
}

// as is the order as one of this kind.
func as(kind int, o api.Order) api.Order {
	if o.Kind = kind; kind == api.Market {
		o.Price = 0
	}
	return o
}

// left is the order with this much left of it.
func left(o api.Order, qty int) api.Order {
	o.Qty = qty
	return o
}

// at is the order at this price.
func at(price int, o api.Order) api.Order {
	o.Price = price
	return o
}

func showing(o api.Order, show int) api.Order {
	o.Show = show
	return o
}

// behind is the order behind this Stop; behind 0 it has none.
func behind(stop int, o api.Order) api.Order {
	o.Stop = stop
	return o
}

// of is the order as one of this trader.
func of(trader int, o api.Order) api.Order {
	o.Trader = trader
	return o
}

// turned is the order on the other side, with its prices at the other end, so
// that what was better is as much better there.
func turned(o api.Order) api.Order {
	o.Side = api.Buy + api.Sell - o.Side
	if o.Price > 0 {
		o.Price = 100 - o.Price
	}
	if o.Stop > 0 {
		o.Stop = 100 - o.Stop
	}
	return o
}

// turns are what a case is tried with: as it is written, and turned.
func turns() []func(api.Order) api.Order {
	return []func(api.Order) api.Order{func(o api.Order) api.Order { return o }, turned}
}

func kinds() []int { return []int{api.Limit, api.Market, api.IOC, api.FOK, api.Post} }

// without is the list without its i-th.
func without[T any](list []T, i int) []T { return slices.Concat(list[:i], list[i+1:]) }

// fill is a trade as a book makes it, which knows no Stop.
func fill(maker, taker api.Order, qty, no int) api.Fill {
	return api.Fill{Maker: behind(0, maker), Taker: behind(0, taker), Price: maker.Price, Qty: qty, No: no}
}

// What an order can come to: it waits, rests with this much left, goes with
// this much left, meets its own firm, or is refused.

func waits(o api.Order) api.Outcome { return api.Outcome{Order: o, Left: o.Qty, Waits: true} }

func rests(o api.Order, left int, fills ...api.Fill) api.Outcome {
	return api.Outcome{Order: o, Fills: fills, Left: left, Rests: true}
}

func goes(o api.Order, left int, fills ...api.Fill) api.Outcome {
	return api.Outcome{Order: o, Fills: fills, Left: left}
}

func meets(o api.Order, left int, fills ...api.Fill) api.Outcome {
	return api.Outcome{Order: o, Fills: fills, Left: left, Self: true}
}

func fails(o api.Order, err api.Errno) api.Outcome {
	return api.Outcome{Order: o, Left: o.Qty, Err: err}
}

// stays is what an order that only comes to rest or to wait comes to.
func stays(o api.Order) api.Outcome {
	if o.Stop > 0 {
		return waits(o)
	}
	return rests(o, o.Qty)
}

func sameOutcome(a, b api.Outcome) bool {
	fills := slices.Equal(a.Fills, b.Fills)
	a.Fills, b.Fills = nil, nil
	return fills && a.Order == b.Order && a.Left == b.Left && a.Rests == b.Rests && a.Waits == b.Waits && a.Self == b.Self && a.Err == b.Err
}

func holdOutcomes(t *testing.T, got []api.Outcome, want ...api.Outcome) {
	t.Helper()
	if !slices.EqualFunc(got, want, sameOutcome) {
		t.Errorf("the outcomes are %+v, not %+v", got, want)
	}
}

func holdAdd(t *testing.T, m *stops.Market, want ...api.Outcome) {
	t.Helper()
	holdOutcomes(t, m.Add(want[0].Order), want...)
}

// marketOf holds these orders, of which those with a Stop come to wait and the
// others to rest whole.
func marketOf(t *testing.T, orders ...api.Order) *stops.Market {
	t.Helper()
	m := stops.New()
	for _, o := range orders {
		holdAdd(t, m, stays(o))
	}
	return m
}

// trade makes the last trade be one at this price, and leaves nothing behind.
func trade(t *testing.T, m *stops.Market, price int) {
	t.Helper()
	maker, taker, no := sell(7, 0, price, 1), as(api.IOC, buy(6, 0, price, 1)), m.Book().No()
	holdAdd(t, m, stays(maker))
	holdAdd(t, m, goes(taker, 0, fill(maker, taker, 1, no+1)))
}

// amend holds that the order with this trader and id is there, and is changed
// to a price and a quantity that may be.
func amend(t *testing.T, m *stops.Market, o api.Order, price, qty int) []api.Outcome {
	t.Helper()
	outs, err := change.Amend(m, o.Trader, o.Id, price, qty)
	if err != api.OK {
		t.Errorf("Amend of %+v to %d, %d: error %d", o, price, qty, err)
	}
	return outs
}

// holdQuiet holds P11.5.
func holdQuiet(t *testing.T, m *stops.Market) {
	t.Helper()
	for _, o := range m.Waiting() {
		if order.Hit(o, m.Book().Last()) {
			t.Errorf("%+v waits, but the last trade was at %d", o, m.Book().Last())
		}
	}
}

// holdAmend holds what it comes to that the order with this trader and id is
// changed to the price and the quantity of the first outcome's order, and P11.5
// behind it.
func holdAmend(t *testing.T, m *stops.Market, want ...api.Outcome) {
	t.Helper()
	o := want[0].Order
	holdOutcomes(t, amend(t, m, o, o.Price, o.Qty), want...)
	holdQuiet(t, m)
}

// holdLess holds that o is changed to a quantity and no outcome comes of it.
func holdLess(t *testing.T, m *stops.Market, o api.Order, qty int) {
	t.Helper()
	holdOutcomes(t, amend(t, m, o, o.Price, qty))
}

// holdRefused holds that an order is not changed, and that nothing else is.
func holdRefused(t *testing.T, m *stops.Market, trader, id, price, qty int, want api.Errno) {
	t.Helper()
	before := pictureOf(m)
	for range 2 {
		if outs, err := change.Amend(m, trader, id, price, qty); len(outs) != 0 || err != want {
			t.Errorf("Amend of %d, %d to %d, %d = %+v, error %d, not %d", trader, id, price, qty, outs, err, want)
		}
		holdPicture(t, m, before)
	}
}

// holdMass holds which orders go with a set of traders.
func holdMass(t *testing.T, m *stops.Market, traders uint64, want ...api.Order) {
	t.Helper()
	if got := change.Mass(m, traders); !slices.Equal(got, want) {
		t.Errorf("Mass(%x) = %+v, not %+v", traders, got, want)
	}
}

func holdOpen(t *testing.T, m *stops.Market, trader, want int) {
	t.Helper()
	if got := change.Open(m, trader); got != want {
		t.Errorf("Open(%d) = %d, not %d", trader, got, want)
	}
}

// holdAll holds the orders of a market, and how many there are.
func holdAll(t *testing.T, m *stops.Market, want ...api.Order) {
	t.Helper()
	if got := m.All(); !slices.Equal(got, want) || m.Len() != len(want) {
		t.Errorf("All() = %+v, Len() = %d, not %+v", got, m.Len(), want)
	}
}

// holdDepth holds the prices of a side, each with what is seen at it.
func holdDepth(t *testing.T, m *stops.Market, side int, want ...int) {
	t.Helper()
	var got []int
	for _, h := range m.Book().Depth(side) {
		got = append(got, h.Maker.Price, h.Qty)
	}
	if !slices.Equal(got, want) {
		t.Errorf("Depth(%d) is %v, not %v", side, got, want)
	}
}

// holdBook holds how many orders rest, and what is told of the last trade.
func holdBook(t *testing.T, m *stops.Market, n, last, no int) {
	t.Helper()
	if b := m.Book(); b.Len() != n || b.Last() != last || b.No() != no {
		t.Errorf("the book's Len %d, Last %d, No %d, not %d, %d, %d", b.Len(), b.Last(), b.No(), n, last, no)
	}
}

// picture is all that a market answers of itself.
type picture struct {
	all, waiting, buys, sells []api.Order
	bids, asks                []api.Hit
	len, resting, last, no    int
}

func pictureOf(m *stops.Market) picture {
	b := m.Book()
	return picture{
		all: m.All(), waiting: m.Waiting(), buys: b.Orders(api.Buy), sells: b.Orders(api.Sell),
		bids: b.Depth(api.Buy), asks: b.Depth(api.Sell),
		len: m.Len(), resting: b.Len(), last: b.Last(), no: b.No(),
	}
}

func holdPicture(t *testing.T, m *stops.Market, want picture) {
	t.Helper()
	got := pictureOf(m)
	if !slices.Equal(got.all, want.all) || !slices.Equal(got.waiting, want.waiting) ||
		!slices.Equal(got.buys, want.buys) || !slices.Equal(got.sells, want.sells) ||
		!slices.Equal(got.bids, want.bids) || !slices.Equal(got.asks, want.asks) ||
		got.len != want.len || got.resting != want.resting || got.last != want.last || got.no != want.no {
		t.Errorf("the market is %+v, not %+v", got, want)
	}
}

func TestTheChaptersExample(t *testing.T) {
	a, b, x := buy(1, 1, 10, 5), buy(2, 1, 10, 5), sell(3, 1, 10, 4)
	m := marketOf(t, a, b)
	holdLess(t, m, a, 3)
	holdAdd(t, m, goes(x, 0, fill(left(a, 3), x, 3, 1), fill(b, left(x, 1), 1, 2)))
	holdAll(t, m, left(b, 4))
	m = marketOf(t, a, b)
	holdAmend(t, m, rests(left(a, 6), 6))
	holdAdd(t, m, goes(x, 0, fill(b, x, 4, 1)))
	holdAll(t, m, left(b, 1), left(a, 6))
}

// P12.1, the errors.

// four is a market behind a trade at 50, in which two orders rest and two wait.
func four(t *testing.T) (*stops.Market, []api.Order) {
	t.Helper()
	m := stops.New()
	trade(t, m, 50)
	orders := []api.Order{
		showing(buy(2, 2, 48, 5), 3), sell(1, 1, 52, 6),
		behind(60, showing(buy(3, 3, 61, 7), 4)), behind(40, as(api.Market, sell(4, 4, 0, 8))),
	}
	for _, o := range orders {
		holdAdd(t, m, stays(o))
	}
	holdAll(t, m, orders...)
	return m, orders
}

// wrongs are prices and quantities one of which, or both, may never be.
func wrongs() [][2]int {
	return [][2]int{
		{-1, 5}, {api.MaxPrice + 1, 5}, {math.MinInt, 1}, {math.MaxInt, 1},
		{50, 0}, {50, -1}, {50, api.MaxQty + 1}, {50, math.MinInt}, {50, math.MaxInt}, {0, 0}, {0, -1}, {0, api.MaxQty + 1},
		{-1, -1}, {api.MaxPrice + 1, api.MaxQty + 1}, {math.MinInt, math.MinInt}, {math.MaxInt, math.MaxInt}, {math.MinInt, math.MaxInt},
	}
}

func TestAmendOfAnOrderThatIsNotThere(t *testing.T) {
	m, orders := four(t)
	names := [][2]int{{0, 0}, {11, 2}, {12, 1}, {math.MinInt, math.MinInt}, {math.MaxInt, math.MaxInt}, {-1, -1}, {32, 1}, {64, 1}, {7, 0}, {17, 0}, {16, 0}}
	for _, o := range orders {
		names = append(names, [][2]int{
			{o.Trader, o.Id + 1}, {o.Trader, o.Id - 1}, {o.Trader, -o.Id}, {o.Trader, math.MaxInt}, {o.Trader, o.Id + 1<<32},
			{o.Trader + 1, o.Id}, {o.Trader - 1, o.Id}, {o.Trader + 32, o.Id}, {o.Trader + 64, o.Id}, {-o.Trader, o.Id}, {o.Firm, o.Id}, {o.Id, o.Trader},
		}...)
	}
	for _, name := range names {
		for _, to := range append(wrongs(), [][2]int{{50, 5}, {48, 5}, {48, 3}, {52, 6}, {61, 7}, {0, 8}, {0, 1}, {1, 1}}...) {
			holdRefused(t, m, name[0], name[1], to[0], to[1], api.ErrNone)
		}
	}
	for range 2 {
		for _, to := range [][2]int{{50, 5}, {0, 0}} {
			holdRefused(t, stops.New(), 11, 1, to[0], to[1], api.ErrNone)
		}
	}
}

func TestAmendToWhatCannotBe(t *testing.T) {
	m, orders := four(t)
	for _, o := range orders {
		for _, to := range wrongs() {
			holdRefused(t, m, o.Trader, o.Id, to[0], to[1], api.ErrArg)
		}
		holdRefused(t, m, o.Trader, o.Id, o.Price, 0, api.ErrArg)
		holdRefused(t, m, o.Trader, o.Id, o.Price, -1, api.ErrArg)
		holdRefused(t, m, o.Trader, o.Id, o.Price, api.MaxQty+1, api.ErrArg)
		holdRefused(t, m, o.Trader, o.Id, o.Price-api.MaxPrice, o.Qty, api.ErrArg)
		holdRefused(t, m, o.Trader, o.Id, o.Price+api.MaxPrice+1, o.Qty, api.ErrArg)
		if o.Kind == api.Market {
			holdRefused(t, m, o.Trader, o.Id, 1, o.Qty, api.ErrArg)
			holdRefused(t, m, o.Trader, o.Id, 50, 1, api.ErrArg)
		} else {
			holdRefused(t, m, o.Trader, o.Id, 0, o.Qty, api.ErrArg)
			holdRefused(t, m, o.Trader, o.Id, 0, 1, api.ErrArg)
		}
	}
	holdAll(t, m, orders...)
}

// An order is there no more once it was removed, filled, or went otherwise.
func TestAmendOfAnOrderThatIsThereNoMore(t *testing.T) {
	m, orders := four(t)
	gone := func(o api.Order) {
		t.Helper()
		for _, to := range [][2]int{{o.Price, o.Qty}, {o.Price, 1}, {o.Price, o.Qty + 1}, {50, 1}, {0, 1}, {-1, 0}, {50, api.MaxQty + 1}} {
			holdRefused(t, m, o.Trader, o.Id, to[0], to[1], api.ErrNone)
		}
	}
	a, c, s, u := orders[1], orders[0], orders[2], orders[3]
	m.Remove(11, 1)
	gone(a)
	m.Remove(13, 3)
	gone(s)
	x := as(api.IOC, sell(5, 5, 48, 5))
	holdAdd(t, m, goes(x, 0, fill(c, x, 3, 2), fill(left(c, 2), left(x, 2), 2, 3)))
	gone(c)
	gone(x)
	holdMass(t, m, 1<<14, u)
	gone(u)
	holdAll(t, m)
	// Nor is a Post that an amend led to a better order, or an order to its own
	// firm's, or an FOK that was triggered in vain.
	p, d, f := as(api.Post, sell(1, 7, 60, 2)), buy(2, 8, 40, 2), behind(49, as(api.FOK, buy(3, 9, 45, 9)))
	m = marketOf(t, p, d, f)
	holdAmend(t, m, fails(at(40, p), api.ErrTake))
	gone(p)
	holdAmend(t, m, rests(at(50, d), 2))
	e := sell(2, 9, 51, 3)
	holdAdd(t, m, stays(e))
	holdAmend(t, m, meets(at(50, e), 3))
	gone(e)
	y := as(api.IOC, sell(4, 1, 50, 1))
	holdAdd(t, m, goes(y, 0, fill(at(50, d), y, 1, 1)), fails(f, api.ErrFill))
	gone(f)
	holdAll(t, m, left(at(50, d), 1))
}

// A name that is free again may be that of another order, which is meant then.
func TestAmendOfANewOrderOfAnOldName(t *testing.T) {
	a, s := sell(1, 1, 52, 6), behind(60, buy(1, 1, 61, 7))
	m := marketOf(t, a)
	m.Remove(11, 1)
	holdAdd(t, m, stays(s))
	holdAmend(t, m, waits(left(s, 2)))
	holdAll(t, m, left(s, 2))
	m.Remove(11, 1)
	holdAdd(t, m, stays(a))
	holdLess(t, m, a, 2)
	holdAll(t, m, left(a, 2))
}

// The edges of what order.Right allows.

// mayBe is P8.1, of a price and a quantity for an order of this kind.
func mayBe(kind, price, qty int) bool {
	if kind == api.Market {
		return price == 0 && 1 <= qty && qty <= 1<<20
	}
	return 1 <= price && price <= 1<<20 && 1 <= qty && qty <= 1<<20
}

// holdEdges amends o, of which there is a market with nothing else, to prices
// and quantities about the edges.
func holdEdges(t *testing.T, o api.Order) {
	t.Helper()
	edges := []int{math.MinInt, -1 << 20, -1, 0, 1, 2, 1<<20 - 1, 1 << 20, 1<<20 + 1, 1 << 32, math.MaxInt}
	for _, price := range append(edges, o.Price) {
		for _, qty := range append(edges, o.Qty) {
			m := marketOf(t, o)
			if !mayBe(o.Kind, price, qty) {
				holdRefused(t, m, o.Trader, o.Id, price, qty, api.ErrArg)
				continue
			}
			to := left(at(price, o), qty)
			if o.Stop == 0 && price == o.Price && qty <= o.Qty {
				holdLess(t, m, o, qty)
			} else {
				to.Show = min(o.Show, qty)
				holdAmend(t, m, stays(to))
			}
			holdAll(t, m, to)
		}
	}
}

func TestPricesAndQuantitiesAboutTheEdges(t *testing.T) {
	for _, turn := range turns() {
		for _, qty := range []int{1, 9, 1 << 20} {
			for _, show := range []int{0, 1, qty/2 + 1, qty} {
				for _, kind := range []int{api.Limit, api.Post} {
					o := turn(as(kind, showing(sell(1, 1, 40, qty), show)))
					holdEdges(t, o)
					holdEdges(t, behind(50, o))
				}
			}
			for _, kind := range []int{api.Market, api.IOC, api.FOK} {
				holdEdges(t, turn(behind(50, as(kind, sell(1, 1, 40, qty)))))
			}
		}
		for _, price := range []int{1, 1 << 20} {
			for _, stop := range []int{0, 1, 1 << 20} {
				holdEdges(t, behind(stop, at(price, turn(sell(1, 1, 40, 9)))))
			}
		}
	}
}

// R1, R2.

func TestSetsAndTradersThatCannotBe(t *testing.T) {
	m, orders := four(t)
	before := pictureOf(m)
	for _, n := range []int{math.MinInt, math.MinInt + 11, -53, -11, -1, 32, 64 + 11, 1<<32 + 11, math.MaxInt} {
		holdOpen(t, m, n, 0)
	}
	holdMass(t, m, math.MaxUint64&^(1<<11|1<<12|1<<13|1<<14))
	holdPicture(t, m, before)
	holdMass(t, m, math.MaxUint64, orders...)
	holdAll(t, m)
}

// spoil writes all over a slice and what lies behind it.
func spoil[T any](list []T, with T) {
	list = list[:cap(list)]
	for i := range list {
		list[i] = with
	}
}

func spoiler() api.Order { return api.Order{Trader: 99, Id: 99, Price: 99, Qty: 99, Show: 99} }

func TestOutcomesAreNewMemory(t *testing.T) {
	for n := range 6 {
		a := buy(4, 1, 40, 5)
		orders := []api.Order{a, sell(1, 1, 50, 3), sell(1, 2, 50, 2), sell(1, 3, 52, 9)}
		for i := range n {
			orders = append(orders, behind(50, buy(2, i, 52, 1)))
		}
		m, like := marketOf(t, orders...), marketOf(t, orders...)
		got, want := amend(t, m, a, 50, 5), amend(t, like, a, 50, 5)
		kept := slices.Clone(want)
		for i, out := range kept {
			kept[i].Fills = slices.Clone(out.Fills)
		}
		for _, out := range got {
			spoil(out.Fills, api.Fill{Maker: spoiler(), Taker: spoiler(), Price: 99, Qty: 99, No: 99})
		}
		spoil(got, fails(spoiler(), 99))
		holdPicture(t, m, pictureOf(like))
		amend(t, like, orders[3], 60, 9)
		like.Add(buy(5, 1, 60, 30))
		change.Mass(like, math.MaxUint64)
		if len(want) != n+1 || len(want[0].Fills) != 2 {
			t.Errorf("the outcomes are %+v", want)
		}
		holdOutcomes(t, want, kept...)
	}
}

func TestWhatMassReturnsIsNewMemory(t *testing.T) {
	rest := []api.Order{buy(2, 1, 48, 4), buy(1, 2, 48, 5), sell(1, 1, 52, 5), sell(2, 3, 52, 6)}
	wait := []api.Order{behind(62, buy(3, 1, 12, 6)), behind(62, buy(1, 3, 12, 6)), behind(38, sell(4, 1, 1, 6))}
	for _, orders := range [][]api.Order{rest, wait, slices.Concat(rest, wait)} {
		for _, traders := range []uint64{1 << 11, 1<<11 | 1<<12, 1 << 13, math.MaxUint64} {
			m, like := marketOf(t, orders...), marketOf(t, orders...)
			got, want := change.Mass(m, traders), change.Mass(like, traders)
			kept := slices.Clone(want)
			spoil(got, spoiler())
			holdPicture(t, m, pictureOf(like))
			m.Add(buy(5, 1, 48, 1))
			m.Add(behind(61, buy(5, 2, 48, 1)))
			like.Add(buy(5, 1, 48, 1))
			like.Add(behind(61, buy(5, 2, 48, 1)))
			holdPicture(t, m, pictureOf(like))
			change.Mass(like, math.MaxUint64)
			if !slices.Equal(want, kept) {
				t.Errorf("later calls changed what was handed out: %+v", want)
			}
		}
	}
}

func TestMarketsDoNotTouchEachOther(t *testing.T) {
	orders := []api.Order{buy(2, 1, 49, 5), sell(1, 1, 50, 5), behind(60, buy(3, 1, 12, 6)), behind(30, sell(4, 1, 1, 6))}
	one, two := marketOf(t, orders...), marketOf(t, orders...)
	before := pictureOf(two)
	holdLess(t, one, orders[0], 2)
	holdPicture(t, two, before)
	amend(t, one, orders[2], 13, 7)
	amend(t, one, orders[0], 50, 9)
	holdPicture(t, two, before)
	change.Mass(one, math.MaxUint64)
	holdPicture(t, two, before)
	holdAll(t, one)
	holdOpen(t, one, 12, 0)
	holdOpen(t, two, 12, 5)
}
