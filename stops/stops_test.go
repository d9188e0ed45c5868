package stops_test

import (
	"math"
	"slices"
	"testing"

	"jobber/api"
	"jobber/order"
	"jobber/stops"
)

// sell and buy are limits of trader 10 + firm, so that no test mixes the two up.
func sell(firm, id, price, qty int) api.Order {
	return api.Order{Trader: 10 + firm, Id: id, Firm: firm, Side: api.Sell, Kind: api.Limit, Price: price, Qty: qty}
}

func buy(firm, id, price, qty int) api.Order {
	o := sell(firm, id, price, qty)
	o.Side = api.Buy
	return o
}

// as is the order as one of this kind.
func as(kind int, o api.Order) api.Order {
	if o.Kind = kind; kind == api.Market {
		o.Price = 0
	}
	return o
}

// left is the order with this much left of it.
func left(o api.Order, qty int) api.Order {
	o.Qty = qty
	return o
}

func showing(o api.Order, show int) api.Order {
	o.Show = show
	return o
}

// behind is the order behind this Stop; behind 0 it has none.
func behind(stop int, o api.Order) api.Order {
	o.Stop = stop
	return o
}

// turned is the order on the other side, with its prices at the other end, so
// that what was better is as much better there.
func turned(o api.Order) api.Order {
	o.Side = api.Buy + api.Sell - o.Side
	if o.Price > 0 {
		o.Price = 100 - o.Price
	}
	if o.Stop > 0 {
		o.Stop = 100 - o.Stop
	}
	return o
}

// turns are what a case is tried with: as it is written, and turned.
func turns() []func(api.Order) api.Order {
	return []func(api.Order) api.Order{func(o api.Order) api.Order { return o }, turned}
}

func kinds() []int { return []int{api.Limit, api.Market, api.IOC, api.FOK, api.Post} }

// fill is a trade as a book makes it, which knows no Stop.
func fill(maker, taker api.Order, qty, no int) api.Fill {
	return api.Fill{Maker: behind(0, maker), Taker: behind(0, taker), Price: maker.Price, Qty: qty, No: no}
}

// What an order can come to: it waits, rests with this much left, goes with
// this much left, meets its own firm, or is refused.

func waits(o api.Order) api.Outcome { return api.Outcome{Order: o, Left: o.Qty, Waits: true} }

func rests(o api.Order, left int, fills ...api.Fill) api.Outcome {
	return api.Outcome{Order: o, Fills: fills, Left: left, Rests: true}
}

func goes(o api.Order, left int, fills ...api.Fill) api.Outcome {
	return api.Outcome{Order: o, Fills: fills, Left: left}
}

func meets(o api.Order, left int, fills ...api.Fill) api.Outcome {
	return api.Outcome{Order: o, Fills: fills, Left: left, Self: true}
}

func fails(o api.Order, err api.Errno) api.Outcome {
	return api.Outcome{Order: o, Left: o.Qty, Err: err}
}

func sameOutcome(a, b api.Outcome) bool {
	fills := slices.Equal(a.Fills, b.Fills)
	a.Fills, b.Fills = nil, nil
	return fills && a.Order == b.Order && a.Left == b.Left && a.Rests == b.Rests && a.Waits == b.Waits && a.Self == b.Self && a.Err == b.Err
}

// holdAdd holds what Add answers to the first Outcome's order, and P11.5.
func holdAdd(t *testing.T, m *stops.Market, want ...api.Outcome) {
	t.Helper()
	if got := m.Add(want[0].Order); !slices.EqualFunc(got, want, sameOutcome) {
		t.Errorf("Add = %+v, not %+v", got, want)
	}
	holdQuiet(t, m)
}

// holdQuiet holds P11.5.
func holdQuiet(t *testing.T, m *stops.Market) {
	t.Helper()
	for _, o := range m.Waiting() {
		if order.Hit(o, m.Book().Last()) {
			t.Errorf("%+v waits, but the last trade was at %d", o, m.Book().Last())
		}
	}
}

// marketOf holds these orders, of which those with a Stop come to wait and the
// others to rest whole.
func marketOf(t *testing.T, orders ...api.Order) *stops.Market {
	t.Helper()
	m := stops.New()
	for _, o := range orders {
		holdComes(t, m, o)
	}
	return m
}

// holdComes holds that o comes to wait, or to rest whole.
func holdComes(t *testing.T, m *stops.Market, o api.Order) {
	t.Helper()
	if o.Stop > 0 {
		holdAdd(t, m, waits(o))
	} else {
		holdAdd(t, m, rests(o, o.Qty))
	}
}

// trade makes the last trade be one at this price, and leaves nothing behind.
func trade(t *testing.T, m *stops.Market, price int) {
	t.Helper()
	maker, taker, no := sell(7, 0, price, 1), as(api.IOC, buy(6, 0, price, 1)), m.Book().No()
	holdComes(t, m, maker)
	holdAdd(t, m, goes(taker, 0, fill(maker, taker, 1, no+1)))
}

func holdWaiting(t *testing.T, m *stops.Market, want ...api.Order) {
	t.Helper()
	if got := m.Waiting(); !slices.Equal(got, want) {
		t.Errorf("Waiting() = %+v, not %+v", got, want)
	}
}

// holdAll holds the orders of a market, and how many there are.
func holdAll(t *testing.T, m *stops.Market, want ...api.Order) {
	t.Helper()
	if got := m.All(); !slices.Equal(got, want) || m.Len() != len(want) {
		t.Errorf("All() = %+v, Len() = %d, not %+v", got, m.Len(), want)
	}
}

// holdBook holds how many orders rest, and what is told of the last trade.
func holdBook(t *testing.T, m *stops.Market, n, last, no int) {
	t.Helper()
	if b := m.Book(); b.Len() != n || b.Last() != last || b.No() != no {
		t.Errorf("the book's Len %d, Last %d, No %d, not %d, %d, %d", b.Len(), b.Last(), b.No(), n, last, no)
	}
}

func holdFind(t *testing.T, m *stops.Market, trader, id int, want api.Order, there bool) {
	t.Helper()
	if got, ok := m.Find(trader, id); got != want || ok != there {
		t.Errorf("Find(%d, %d) = %+v, %v, not %+v, %v", trader, id, got, ok, want, there)
	}
}

func holdRemove(t *testing.T, m *stops.Market, trader, id int, want api.Order, there bool) {
	t.Helper()
	if got, ok := m.Remove(trader, id); got != want || ok != there {
		t.Errorf("Remove(%d, %d) = %+v, %v, not %+v, %v", trader, id, got, ok, want, there)
	}
	holdQuiet(t, m)
}

// picture is all that a market answers of itself.
type picture struct {
	all, waiting, buys, sells []api.Order
	bids, asks                []api.Hit
	len, resting, last, no    int
}

func pictureOf(m *stops.Market) picture {
	b := m.Book()
	return picture{
		all: m.All(), waiting: m.Waiting(), buys: b.Orders(api.Buy), sells: b.Orders(api.Sell),
		bids: b.Depth(api.Buy), asks: b.Depth(api.Sell),
		len: m.Len(), resting: b.Len(), last: b.Last(), no: b.No(),
	}
}

func holdPicture(t *testing.T, m *stops.Market, want picture) {
	t.Helper()
	got := pictureOf(m)
	if !slices.Equal(got.all, want.all) || !slices.Equal(got.waiting, want.waiting) ||
		!slices.Equal(got.buys, want.buys) || !slices.Equal(got.sells, want.sells) ||
		!slices.Equal(got.bids, want.bids) || !slices.Equal(got.asks, want.asks) ||
		got.len != want.len || got.resting != want.resting || got.last != want.last || got.no != want.no {
		t.Errorf("the market is %+v, not %+v", got, want)
	}
}

func TestTheChaptersExample(t *testing.T) {
	a, c := sell(1, 1, 10, 5), sell(1, 2, 11, 5)
	s, x := behind(10, buy(2, 1, 12, 3)), buy(3, 1, 10, 5)
	m := marketOf(t, a, c, s)
	holdAdd(t, m, goes(x, 0, fill(a, x, 5, 1)), goes(s, 0, fill(c, s, 3, 2)))
	holdAll(t, m, left(c, 2))
	holdBook(t, m, 1, 11, 2)
}

// P11.1, P11.4: New, Book, Waiting, Len and All.

func TestAMarketWithoutOrders(t *testing.T) {
	m := stops.New()
	holdAll(t, m)
	holdWaiting(t, m)
	holdBook(t, m, 0, 0, 0)
	for _, n := range []int{math.MinInt, -1, 0, 1, 11, math.MaxInt} {
		holdFind(t, m, n, n, api.Order{}, false)
		holdRemove(t, m, 0, n, api.Order{}, false)
		holdRemove(t, m, n, 0, api.Order{}, false)
	}
	holdAll(t, m)
}

func TestAMarketInWhichOrdersOnlyRest(t *testing.T) {
	a, c, d, e := sell(1, 1, 11, 5), sell(2, 1, 10, 4), buy(3, 1, 8, 3), buy(4, 1, 9, 2)
	m := marketOf(t, a, d, c, e)
	holdAll(t, m, e, d, c, a)
	holdWaiting(t, m)
	holdBook(t, m, 4, 0, 0)
}

func TestAMarketInWhichOrdersOnlyWait(t *testing.T) {
	a, c, d, e := behind(9, sell(1, 1, 11, 5)), behind(4, buy(2, 1, 10, 4)), behind(20, sell(3, 1, 8, 3)), behind(4, buy(4, 1, 9, 2))
	m := marketOf(t, a, c, d, e)
	holdAll(t, m, a, c, d, e)
	holdWaiting(t, m, a, c, d, e)
	holdBook(t, m, 0, 0, 0)
}

func TestAMarketInWhichOrdersRestAndWait(t *testing.T) {
	a, c, d, e := sell(1, 1, 11, 5), buy(2, 1, 8, 4), sell(3, 1, 10, 3), buy(4, 1, 9, 2)
	f, g, h := behind(30, sell(5, 1, 1, 7)), behind(2, buy(6, 1, 99, 6)), as(api.Market, behind(40, sell(7, 1, 0, 8)))
	m := marketOf(t, f, a, c, g, d, e, h)
	holdAll(t, m, e, c, d, a, f, g, h)
	holdWaiting(t, m, f, g, h)
	holdBook(t, m, 4, 0, 0)
}

func TestAMarketBehindATrade(t *testing.T) {
	a, c := sell(1, 1, 10, 5), sell(2, 1, 12, 4)
	s, u := behind(12, buy(3, 1, 12, 6)), behind(9, sell(3, 2, 1, 6))
	m := marketOf(t, a, s, c, u)
	x, y := buy(4, 1, 10, 2), buy(4, 2, 10, 7)
	holdAdd(t, m, goes(x, 0, fill(a, x, 2, 1)))
	holdAll(t, m, left(a, 3), c, s, u)
	holdWaiting(t, m, s, u)
	holdBook(t, m, 2, 10, 1)
	holdAdd(t, m, rests(y, 4, fill(left(a, 3), y, 3, 2)))
	holdAll(t, m, left(y, 4), c, s, u)
	holdBook(t, m, 2, 10, 2)
}

func TestAMarketBehindARemove(t *testing.T) {
	a, c, s, u := sell(1, 1, 10, 5), buy(2, 1, 9, 4), behind(12, buy(3, 1, 12, 6)), behind(9, sell(4, 1, 1, 6))
	m := marketOf(t, a, c, s, u)
	holdRemove(t, m, 11, 1, a, true)
	holdAll(t, m, c, s, u)
	holdBook(t, m, 1, 0, 0)
	holdRemove(t, m, 13, 1, s, true)
	holdAll(t, m, c, u)
	holdWaiting(t, m, u)
	holdRemove(t, m, 14, 1, u, true)
	holdWaiting(t, m)
	holdAll(t, m, c)
	holdRemove(t, m, 12, 1, c, true)
	holdAll(t, m)
	holdBook(t, m, 0, 0, 0)
}

func TestMarketsDoNotTouchEachOther(t *testing.T) {
	orders := []api.Order{sell(1, 1, 10, 5), buy(2, 1, 9, 5), behind(10, buy(3, 1, 12, 6)), behind(8, sell(4, 1, 1, 6))}
	one, two, none := marketOf(t, orders...), marketOf(t, orders...), stops.New()
	before := pictureOf(two)
	one.Add(buy(5, 1, 10, 2))
	one.Add(behind(3, sell(5, 2, 9, 5)))
	one.Remove(14, 1)
	one.Remove(12, 1)
	holdPicture(t, two, before)
	holdAll(t, none)
	holdBook(t, none, 0, 0, 0)
	if one.Book() == two.Book() || one.Book() == none.Book() || two.Book() == none.Book() {
		t.Error("two markets have one book")
	}
}

// Book hands out the book itself: what is changed there is changed here.
func TestTheBookItself(t *testing.T) {
	a, s := sell(1, 1, 10, 5), behind(12, buy(2, 1, 12, 6))
	m := marketOf(t, s, a)
	b := m.Book()
	c := buy(3, 1, 9, 4)
	b.Add(c)
	holdAll(t, m, c, a, s)
	holdFind(t, m, 13, 1, c, true)
	b.Less(11, 1, 2)
	holdFind(t, m, 11, 1, left(a, 2), true)
	b.Remove(13, 1)
	holdAll(t, m, left(a, 2), s)
	holdRemove(t, m, 11, 1, left(a, 2), true)
	if m.Book() != b || b.Len() != 0 {
		t.Errorf("another book, or %d orders in it", b.Len())
	}
}

// A trade that the market did not see triggers nothing until an Add that is
// not refused.
func TestATradeInTheBookItself(t *testing.T) {
	s := behind(10, buy(2, 1, 12, 6))
	m := marketOf(t, sell(1, 1, 10, 5), s)
	m.Book().Add(buy(3, 1, 10, 2))
	holdWaiting(t, m, s)
	before := pictureOf(m)
	for _, o := range []api.Order{left(s, 0), s, as(api.FOK, buy(3, 1, 10, 9)), as(api.Post, buy(3, 1, 10, 9))} {
		if got := m.Add(o); len(got) != 1 || got[0].Err == api.OK {
			t.Errorf("Add = %+v", got)
		}
		holdPicture(t, m, before)
	}
	x := as(api.IOC, sell(3, 2, 90, 1))
	holdAdd(t, m, goes(x, 1), rests(s, 3, fill(left(sell(1, 1, 10, 5), 3), s, 3, 2)))
}

// R2.

// spoil writes all over a slice and what lies behind it.
func spoil[T any](list []T, with T) {
	list = list[:cap(list)]
	for i := range list {
		list[i] = with
	}
}

func spoiler() api.Order { return api.Order{Trader: 99, Id: 99, Price: 99, Qty: 99, Show: 99} }

func TestWaitingAndAllAreNewMemory(t *testing.T) {
	rest := []api.Order{sell(1, 1, 10, 5), buy(2, 1, 9, 4)}
	wait := []api.Order{behind(12, buy(3, 1, 12, 6)), behind(8, sell(4, 1, 1, 6))}
	for _, orders := range [][]api.Order{rest, wait, slices.Concat(rest, wait)} {
		for n := range 9 {
			m := marketOf(t, orders...)
			for i := range n {
				holdComes(t, m, behind(orders[len(orders)-1].Stop, sell(5, i, 20, 1)))
			}
			holdNewMemory(t, m)
		}
	}
}

// holdNewMemory holds that a market and what it handed out of itself don't
// touch each other.
func holdNewMemory(t *testing.T, m *stops.Market) {
	t.Helper()
	before := pictureOf(m)
	spoil(m.Waiting(), spoiler())
	holdPicture(t, m, before)
	spoil(m.All(), spoiler())
	holdPicture(t, m, before)
	all, waiting := slices.Clone(before.all), slices.Clone(before.waiting)
	m.Add(behind(30, buy(6, 1, 1, 1)))
	m.Remove(13, 1)
	m.Remove(11, 1)
	m.Add(buy(6, 2, 10, 7))
	m.Remove(14, 1)
	m.Add(behind(31, buy(6, 3, 1, 1)))
	if !slices.Equal(before.all, all) || !slices.Equal(before.waiting, waiting) {
		t.Errorf("later calls changed what was handed out: %+v, %+v", before.all, before.waiting)
	}
}

func TestOutcomesAreNewMemory(t *testing.T) {
	for n := range 6 {
		orders := []api.Order{sell(1, 1, 10, 5), sell(1, 2, 11, 5), sell(1, 3, 12, 9)}
		for i := range n {
			orders = append(orders, behind(10, buy(2, i, 12, 2)))
		}
		orders = append(orders, behind(90, buy(3, 1, 99, 1)), behind(90, buy(3, 2, 99, 1)))
		m, like := marketOf(t, orders...), marketOf(t, orders...)
		got, want := m.Add(buy(4, 1, 10, 5)), like.Add(buy(4, 1, 10, 5))
		kept := slices.Clone(want)
		for i, out := range kept {
			kept[i].Fills = slices.Clone(out.Fills)
		}
		for _, out := range got {
			spoil(out.Fills, api.Fill{Maker: spoiler(), Taker: spoiler(), Price: 99, Qty: 99, No: 99})
		}
		spoil(got, fails(spoiler(), 99))
		holdPicture(t, m, pictureOf(like))
		like.Add(buy(5, 1, 12, 30))
		like.Remove(13, 1)
		like.Add(behind(91, buy(5, 2, 12, 30)))
		like.Add(sell(6, 1, 1, 30))
		if len(want) != n+1 || !slices.EqualFunc(want, kept, sameOutcome) {
			t.Errorf("later calls changed what was handed out: %+v", want)
		}
	}
}

// R1: any number, in any place of an order, and as a trader and an id.
func TestNumbersThatCannotBe(t *testing.T) {
	m := stops.New()
	trade(t, m, 10)
	for _, o := range []api.Order{sell(1, 1, 10, 5), buy(2, 1, 9, 5), behind(12, buy(3, 1, 12, 6)), behind(8, sell(4, 1, 1, 6))} {
		holdComes(t, m, o)
	}
	before := pictureOf(m)
	for _, n := range []int{math.MinInt, math.MinInt + 1, -1 << 20, -1, 1<<30 + 1, 1 << 40, math.MaxInt - 1, math.MaxInt} {
		for place := range 9 {
			for _, stop := range []int{0, 9, 12} {
				o := behind(stop, buy(5, 3, 10, 5))
				*[]*int{&o.Trader, &o.Id, &o.Firm, &o.Side, &o.Kind, &o.Price, &o.Qty, &o.Show, &o.Stop}[place] = n
				holdAdd(t, m, fails(o, api.ErrArg))
			}
		}
		for _, k := range []int{n, 0, 1, 11, 13} {
			holdFind(t, m, n, k, api.Order{}, false)
			holdFind(t, m, k, n, api.Order{}, false)
			holdRemove(t, m, n, k, api.Order{}, false)
			holdRemove(t, m, k, n, api.Order{}, false)
		}
	}
	holdPicture(t, m, before)
}
