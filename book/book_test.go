package book_test

import (
	"math"
	"slices"
	"testing"

	"jobber/api"
	"jobber/book"
	"jobber/order"
)

// sell and buy are limits of trader 10 + firm, so that no test mixes the two up.
func sell(firm, id, price, qty int) api.Order {
	return api.Order{Trader: 10 + firm, Id: id, Firm: firm, Side: api.Sell, Kind: api.Limit, Price: price, Qty: qty}
}

func buy(firm, id, price, qty int) api.Order {
	o := sell(firm, id, price, qty)
	o.Side = api.Buy
	return o
}

// as is the order as one of this kind.
func as(kind int, o api.Order) api.Order {
	if o.Kind = kind; kind == api.Market {
		o.Price = 0
	}
	return o
}

// left is the order with this much left of it.
func left(o api.Order, qty int) api.Order {
	o.Qty = qty
	return o
}

func showing(o api.Order, show int) api.Order {
	o.Show = show
	return o
}

// turned is the order on the other side, with its price at the other end, so
// that what was better is as much better there.
func turned(o api.Order) api.Order {
	o.Side = api.Buy + api.Sell - o.Side
	if o.Kind != api.Market {
		o.Price = 100 - o.Price
	}
	return o
}

func kinds() []int { return []int{api.Limit, api.Market, api.IOC, api.FOK, api.Post} }

func hit(o api.Order, qty int) api.Hit { return api.Hit{Maker: o, Qty: qty} }

func fill(maker, taker api.Order, qty, no int) api.Fill {
	return api.Fill{Maker: maker, Taker: taker, Price: maker.Price, Qty: qty, No: no}
}

// bookOf holds these orders, all of which come to rest whole.
func bookOf(t *testing.T, orders ...api.Order) *book.Book {
	t.Helper()
	b := book.New()
	for _, o := range orders {
		holdRests(t, b, o)
	}
	return b
}

// fullBook holds MaxBook orders: sells of 2 at 50, 51 and 52 by firm 1, and
// buys of 2 at 40, 39 and 38 by firm 2, as many of each.
func fullBook(t *testing.T) *book.Book {
	t.Helper()
	b := book.New()
	for i := range api.MaxBook / 2 {
		holdRests(t, b, sell(1, i, 50+i%3, 2))
		holdRests(t, b, buy(2, i, 40-i%3, 2))
	}
	if b.Len() != api.MaxBook {
		t.Fatalf("Len() = %d", b.Len())
	}
	return b
}

func sameOutcome(a, b api.Outcome) bool {
	fills := slices.Equal(a.Fills, b.Fills)
	a.Fills, b.Fills = nil, nil
	return fills && a.Order == b.Order && a.Left == b.Left && a.Rests == b.Rests && a.Waits == b.Waits && a.Self == b.Self && a.Err == b.Err
}

// holdAdd holds what Add answers; that its Order is o goes without saying.
func holdAdd(t *testing.T, b *book.Book, o api.Order, want api.Outcome) {
	t.Helper()
	want.Order = o
	if got := b.Add(o); !sameOutcome(got, want) {
		t.Errorf("Add = %+v, not %+v", got, want)
	}
}

// holdRests holds that o comes to rest whole.
func holdRests(t *testing.T, b *book.Book, o api.Order) {
	t.Helper()
	holdAdd(t, b, o, api.Outcome{Left: o.Qty, Rests: true})
}

// holdSide holds the orders of a side.
func holdSide(t *testing.T, b *book.Book, side int, want ...api.Order) {
	t.Helper()
	if got := b.Orders(side); !slices.Equal(got, want) {
		t.Errorf("Orders(%d) = %+v, not %+v", side, got, want)
	}
}

// holdDepth holds the depth of a side, which is given as prices and quantities.
func holdDepth(t *testing.T, b *book.Book, side int, pairs ...int) {
	t.Helper()
	var want []api.Hit
	for i := 0; i < len(pairs); i += 2 {
		want = append(want, hit(api.Order{Side: side, Price: pairs[i]}, pairs[i+1]))
	}
	if got := b.Depth(side); !slices.Equal(got, want) {
		t.Errorf("Depth(%d) = %+v, not %+v", side, got, want)
	}
}

func holdCounts(t *testing.T, b *book.Book, n, last, no int) {
	t.Helper()
	if b.Len() != n || b.Last() != last || b.No() != no {
		t.Errorf("Len %d, Last %d, No %d, not %d, %d, %d", b.Len(), b.Last(), b.No(), n, last, no)
	}
}

func holdFind(t *testing.T, b *book.Book, trader, id int, want api.Order, there bool) {
	t.Helper()
	if got, ok := b.Find(trader, id); got != want || ok != there {
		t.Errorf("Find(%d, %d) = %+v, %v, not %+v, %v", trader, id, got, ok, want, there)
	}
}

// picture is all that a book answers of itself.
type picture struct {
	buys, sells   []api.Order
	bids, asks    []api.Hit
	len, last, no int
}

func pictureOf(b *book.Book) picture {
	return picture{
		buys: b.Orders(api.Buy), sells: b.Orders(api.Sell),
		bids: b.Depth(api.Buy), asks: b.Depth(api.Sell),
		len: b.Len(), last: b.Last(), no: b.No(),
	}
}

func holdPicture(t *testing.T, b *book.Book, want picture) {
	t.Helper()
	got := pictureOf(b)
	if !slices.Equal(got.buys, want.buys) || !slices.Equal(got.sells, want.sells) ||
		!slices.Equal(got.bids, want.bids) || !slices.Equal(got.asks, want.asks) ||
		got.len != want.len || got.last != want.last || got.no != want.no {
		t.Errorf("the book is %+v, not %+v", got, want)
	}
}

func TestTheChaptersExample(t *testing.T) {
	a, c := sell(1, 1, 10, 5), sell(2, 1, 9, 5)
	b := bookOf(t, a, c)
	x := buy(3, 1, 10, 7)
	holdAdd(t, b, x, api.Outcome{Fills: []api.Fill{fill(c, x, 5, 1), fill(a, left(x, 2), 2, 2)}})
	holdCounts(t, b, 1, 10, 2)
	holdDepth(t, b, api.Sell, 10, 3)
	holdAdd(t, b, as(api.FOK, buy(3, 2, 10, 9)), api.Outcome{Left: 9, Err: api.ErrFill})
	holdAdd(t, b, buy(1, 2, 10, 1), api.Outcome{Left: 1, Self: true})
	holdCounts(t, b, 1, 10, 2)
	holdSide(t, b, api.Sell, left(a, 3))
	holdSide(t, b, api.Buy)
}

// P10.1, P10.2.

func TestABookWithoutOrders(t *testing.T) {
	b := book.New()
	holdCounts(t, b, 0, 0, 0)
	for _, side := range []int{api.Buy, api.Sell} {
		holdSide(t, b, side)
		holdDepth(t, b, side)
	}
	for _, n := range []int{math.MinInt, -1, 0, 1, 11, math.MaxInt} {
		holdFind(t, b, n, n, api.Order{}, false)
		holdFind(t, b, 0, n, api.Order{}, false)
		holdFind(t, b, n, 0, api.Order{}, false)
	}
	holdCounts(t, b, 0, 0, 0)
}

func TestABookWithOrdersOnOneSide(t *testing.T) {
	for _, turn := range []func(api.Order) api.Order{func(o api.Order) api.Order { return o }, turned} {
		a, c, d := turn(sell(1, 1, 10, 5)), turn(sell(1, 2, 9, 4)), turn(sell(2, 1, 10, 3))
		b := bookOf(t, a, c, d)
		holdCounts(t, b, 3, 0, 0)
		holdFind(t, b, 11, 1, a, true)
		holdFind(t, b, 11, 2, c, true)
		holdFind(t, b, 12, 1, d, true)
		holdFind(t, b, 12, 2, api.Order{}, false)
		holdSide(t, b, a.Side, c, a, d)
		holdSide(t, b, api.Buy+api.Sell-a.Side)
	}
}

func TestABookWithOrdersOnBothSides(t *testing.T) {
	a, c := sell(1, 1, 10, 5), sell(2, 2, 11, 4)
	d, e := buy(1, 2, 9, 3), buy(3, 1, 8, 2)
	b := bookOf(t, a, d, c, e)
	holdCounts(t, b, 4, 0, 0)
	for _, o := range []api.Order{a, c, d, e} {
		holdFind(t, b, o.Trader, o.Id, o, true)
		holdFind(t, b, o.Trader, o.Id+2, api.Order{}, false)
		holdFind(t, b, o.Trader+32, o.Id, api.Order{}, false)
		holdFind(t, b, o.Firm, o.Id, api.Order{}, false)
		holdFind(t, b, o.Id, o.Trader, api.Order{}, false)
	}
	holdFind(t, b, 12, 1, api.Order{}, false)
	holdFind(t, b, 13, 2, api.Order{}, false)
	holdSide(t, b, api.Sell, a, c)
	holdSide(t, b, api.Buy, d, e)
}

func TestABookBehindATrade(t *testing.T) {
	a, c := sell(1, 1, 10, 5), sell(2, 1, 11, 4)
	b := bookOf(t, a, c)
	holdAdd(t, b, buy(3, 1, 10, 2), api.Outcome{Fills: []api.Fill{fill(a, buy(3, 1, 10, 2), 2, 1)}})
	holdCounts(t, b, 2, 10, 1)
	holdFind(t, b, 11, 1, left(a, 3), true)
	holdFind(t, b, 13, 1, api.Order{}, false)
	x := as(api.IOC, buy(3, 1, 11, 4))
	holdAdd(t, b, x, api.Outcome{Fills: []api.Fill{fill(left(a, 3), x, 3, 2), fill(c, left(x, 1), 1, 3)}})
	holdCounts(t, b, 1, 11, 3)
	holdFind(t, b, 11, 1, api.Order{}, false)
	holdFind(t, b, 12, 1, left(c, 3), true)
	// Without a trade neither changes, whatever rests then.
	holdRests(t, b, buy(3, 1, 9, 1))
	holdRests(t, b, sell(3, 2, 12, 1))
	holdCounts(t, b, 3, 11, 3)
	// The last price may be lower than the one before it.
	x = sell(1, 1, 8, 2)
	holdAdd(t, b, x, api.Outcome{Fills: []api.Fill{fill(buy(3, 1, 9, 1), x, 1, 4)}, Left: 1, Rests: true})
	holdCounts(t, b, 3, 9, 4)
	holdFind(t, b, 11, 1, left(x, 1), true)
}

func TestABookBehindARemove(t *testing.T) {
	a, c, d := sell(1, 1, 10, 5), sell(2, 1, 10, 4), buy(3, 1, 9, 3)
	b := bookOf(t, a, c, d)
	holdAdd(t, b, buy(4, 1, 10, 1), api.Outcome{Fills: []api.Fill{fill(a, buy(4, 1, 10, 1), 1, 1)}})
	b.Remove(11, 1)
	holdCounts(t, b, 2, 10, 1)
	holdFind(t, b, 11, 1, api.Order{}, false)
	holdFind(t, b, 12, 1, c, true)
	b.Remove(13, 1)
	b.Remove(12, 1)
	holdCounts(t, b, 0, 10, 1)
	holdFind(t, b, 12, 1, api.Order{}, false)
	holdFind(t, b, 13, 1, api.Order{}, false)
	holdRests(t, b, c)
	holdFind(t, b, 12, 1, c, true)
	holdCounts(t, b, 1, 10, 1)
}

func TestBooksDoNotTouchEachOther(t *testing.T) {
	a, c := sell(1, 1, 10, 5), buy(2, 1, 9, 5)
	one, two, none := bookOf(t, a, c), bookOf(t, a, c), book.New()
	before := pictureOf(two)
	one.Add(buy(3, 1, 10, 2))
	one.Add(sell(3, 1, 9, 5))
	one.Less(11, 1, 1)
	one.Add(sell(4, 1, 12, 5))
	holdPicture(t, two, before)
	one.Remove(11, 1)
	holdPicture(t, two, before)
	holdCounts(t, one, 1, 9, 2)
	holdCounts(t, none, 0, 0, 0)
	holdRests(t, none, a)
	holdCounts(t, one, 1, 9, 2)
}

// Each new price comes to its place: ahead of all, between and behind all.
func TestLevelsAreOrdered(t *testing.T) {
	prices := []int{30, 10, 50, 20, 40, 1, api.MaxPrice, 30, 1, 50}
	b, c := book.New(), book.New()
	var sells, buys []api.Order
	for i, price := range prices {
		sells = append(sells, sell(1, i, price, 1+i))
		buys = append(buys, buy(1, i, price, 1+i))
		holdRests(t, b, sells[i])
		holdRests(t, c, buys[i])
		slices.SortStableFunc(sells[:i+1:i+1], func(x, y api.Order) int { return x.Price - y.Price })
		slices.SortStableFunc(buys[:i+1:i+1], func(x, y api.Order) int { return y.Price - x.Price })
		holdSide(t, b, api.Sell, sells...)
		holdSide(t, c, api.Buy, buys...)
	}
	holdDepth(t, b, api.Sell, 1, 6+9, 10, 2, 20, 4, 30, 1+8, 40, 5, 50, 3+10, api.MaxPrice, 7)
	holdDepth(t, c, api.Buy, api.MaxPrice, 7, 50, 3+10, 40, 5, 30, 1+8, 20, 4, 10, 2, 1, 6+9)
}

// P10.6.

func TestDepthAndOrdersOfBothSides(t *testing.T) {
	a, c, d := sell(1, 1, 10, 5), sell(2, 1, 10, 4), sell(1, 2, 12, 3)
	e, f := buy(3, 1, 9, 2), buy(3, 2, 7, 6)
	b := bookOf(t, d, a, f, c, e)
	holdDepth(t, b, api.Sell, 10, 9, 12, 3)
	holdDepth(t, b, api.Buy, 9, 2, 7, 6)
	holdSide(t, b, api.Sell, a, c, d)
	holdSide(t, b, api.Buy, e, f)
}

func TestDepthAndOrdersOfNoSide(t *testing.T) {
	b := bookOf(t, sell(1, 1, 10, 5), buy(2, 1, 9, 5))
	for _, side := range []int{0, -1, -2, 3, 4, 1 + 256, 2 + 1<<32, math.MinInt, math.MinInt + 1, math.MaxInt - 1, math.MaxInt} {
		if b.Depth(side) != nil || b.Orders(side) != nil {
			t.Errorf("side %d: %v, %v", side, b.Depth(side), b.Orders(side))
		}
	}
}

func TestDepthLeavesOutWhatIsHidden(t *testing.T) {
	a, c, d := showing(sell(1, 1, 10, 9), 2), sell(2, 1, 10, 4), showing(sell(3, 1, 11, 8), 3)
	e := showing(buy(4, 1, 9, 1<<20), 1)
	b := bookOf(t, a, c, d, e)
	holdDepth(t, b, api.Sell, 10, 6, 11, 3)
	holdDepth(t, b, api.Buy, 9, 1)
	holdSide(t, b, api.Sell, a, c, d)
	b.Add(buy(5, 1, 10, 1))
	holdDepth(t, b, api.Sell, 10, 5, 11, 3)
	holdSide(t, b, api.Sell, left(a, 8), c, d)
	b.Add(buy(5, 1, 10, 2))
	holdDepth(t, b, api.Sell, 10, 5, 11, 3)
	holdSide(t, b, api.Sell, left(c, 3), left(a, 7), d)
}

// spoil writes all over a slice and what lies behind it.
func spoil[T any](list []T, with T) {
	list = list[:cap(list)]
	for i := range list {
		list[i] = with
	}
}

func spoiler() api.Order { return api.Order{Trader: 99, Id: 99, Price: 99, Qty: 99, Show: 99} }

func TestDepthAndOrdersAreNewMemory(t *testing.T) {
	for n := range 9 {
		b := bookOf(t, showing(sell(1, 1, 10, 9), 2), sell(2, 1, 10, 4), sell(3, 1, 11, 8), buy(4, 1, 9, 5), buy(4, 2, 8, 5))
		for i := range n {
			holdRests(t, b, sell(5, i, 12+i, 1))
			holdRests(t, b, buy(6, i, 7-i%3, 1))
		}
		before := pictureOf(b)
		for _, side := range []int{api.Buy, api.Sell} {
			spoil(b.Orders(side), spoiler())
			spoil(b.Depth(side), hit(spoiler(), 99))
			holdPicture(t, b, before)
		}
		kept := picture{buys: slices.Clone(before.buys), sells: slices.Clone(before.sells), bids: slices.Clone(before.bids), asks: slices.Clone(before.asks)}
		b.Add(buy(7, 1, 11, 8))
		b.Add(sell(7, 1, 8, 7))
		b.Less(13, 1, 1)
		b.Remove(12, 1)
		b.Add(sell(7, 2, 10, 3))
		if !slices.Equal(before.buys, kept.buys) || !slices.Equal(before.sells, kept.sells) ||
			!slices.Equal(before.bids, kept.bids) || !slices.Equal(before.asks, kept.asks) {
			t.Errorf("later calls changed what was handed out: %+v", before)
		}
	}
}

// R2 for the Fills: they are nobody else's.
func TestFillsAreNewMemory(t *testing.T) {
	for qty := 1; qty <= 21; qty++ {
		orders := []api.Order{showing(sell(1, 1, 10, 9), 2), sell(2, 1, 10, 4), sell(3, 1, 11, 8)}
		b, like := bookOf(t, orders...), bookOf(t, orders...)
		got, want := b.Add(buy(4, 1, 11, qty)), like.Add(buy(4, 1, 11, qty))
		kept := slices.Clone(want.Fills)
		spoil(got.Fills, api.Fill{Maker: spoiler(), Taker: spoiler(), Price: 99, Qty: 99, No: 99})
		holdPicture(t, b, pictureOf(like))
		like.Add(buy(5, 1, 11, 3))
		like.Less(13, 1, 1)
		like.Remove(11, 1)
		like.Add(sell(5, 2, 9, 3))
		if !slices.Equal(want.Fills, kept) {
			t.Errorf("later calls changed what was handed out: %+v", want.Fills)
		}
	}
}

// Asking changes nothing, and asking again answers the same.
func TestAskingChangesNothing(t *testing.T) {
	b := bookOf(t, showing(sell(1, 1, 10, 9), 2), sell(2, 1, 11, 4), buy(3, 1, 9, 2))
	b.Add(buy(4, 1, 10, 1))
	before := pictureOf(b)
	for range 5 {
		b.Find(11, 1)
		b.Find(99, 1)
		b.Orders(3)
		b.Depth(0)
		holdPicture(t, b, before)
	}
}

// R1: any number, in any place of an order, and as a trader, an id and a
// quantity.
func TestNumbersThatCannotBe(t *testing.T) {
	a, c := sell(1, 1, 10, 5), buy(2, 1, 9, 5)
	b := bookOf(t, a, c)
	before := pictureOf(b)
	for _, n := range []int{math.MinInt, math.MinInt + 1, -1 << 20, -1, 1<<30 + 1, 1 << 40, math.MaxInt - 1, math.MaxInt} {
		for place := range 9 {
			o := buy(3, 3, 10, 5)
			*[]*int{&o.Trader, &o.Id, &o.Firm, &o.Side, &o.Kind, &o.Price, &o.Qty, &o.Show, &o.Stop}[place] = n
			if order.Right(o) != api.ErrArg {
				t.Fatalf("%+v is right", o)
			}
			holdAdd(t, b, o, api.Outcome{Left: o.Qty, Err: api.ErrArg})
		}
		for _, m := range []int{n, 0, 1, 11} {
			holdFind(t, b, n, m, api.Order{}, false)
			holdFind(t, b, m, n, api.Order{}, false)
			holdRemove(t, b, n, m, api.Order{}, false)
			holdRemove(t, b, m, n, api.Order{}, false)
			holdLess(t, b, n, m, 1, false)
			holdLess(t, b, m, n, 1, false)
		}
		holdLess(t, b, 11, 1, n, false)
		holdLess(t, b, 12, 1, n, false)
	}
	holdPicture(t, b, before)
}
