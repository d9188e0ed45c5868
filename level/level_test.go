package level_test

import (
	"math"
	"slices"
	"testing"

	"jobber/api"
	"jobber/level"
	"jobber/order"
)

// rest is an order that rests: of trader 10 + firm, so that no test mixes the
// two up.
func rest(firm, id, qty, show int) api.Order {
	return api.Order{Trader: 10 + firm, Id: id, Firm: firm, Side: api.Sell, Kind: api.Limit, Price: 7, Qty: qty, Show: show}
}

// left is the order with this much left of it.
func left(o api.Order, qty int) api.Order {
	o.Qty = qty
	return o
}

func hit(o api.Order, qty int) api.Hit { return api.Hit{Maker: o, Qty: qty} }

// levelOf holds these orders at price 7, all of which may rest.
func levelOf(t *testing.T, orders ...api.Order) *level.Level {
	t.Helper()
	l := level.New(7)
	for _, o := range orders {
		if order.Right(o) != api.OK {
			t.Fatalf("no order for a level: %+v", o)
		}
		l.Add(o)
	}
	return l
}

// holdLevel holds all that a level answers of itself.
func holdLevel(t *testing.T, l *level.Level, seen, whole int, want ...api.Order) {
	t.Helper()
	if got := l.Orders(); !slices.Equal(got, want) {
		t.Errorf("Orders() = %+v, not %+v", got, want)
	}
	if l.Seen() != seen || l.Whole() != whole || l.Len() != len(want) || l.Price() != 7 {
		t.Errorf("Seen %d, Whole %d, Len %d, Price %d, not %d, %d, %d, 7",
			l.Seen(), l.Whole(), l.Len(), l.Price(), seen, whole, len(want))
	}
}

func holdTake(t *testing.T, l *level.Level, firm, qty int, stopped bool, want ...api.Hit) {
	t.Helper()
	if got, own := l.Take(firm, qty); !slices.Equal(got, want) || own != stopped {
		t.Errorf("Take(%d, %d) = %+v, %v, not %+v, %v", firm, qty, got, own, want, stopped)
	}
}

func holdRemove(t *testing.T, l *level.Level, trader, id int, want api.Order, there bool) {
	t.Helper()
	if got, ok := l.Remove(trader, id); got != want || ok != there {
		t.Errorf("Remove(%d, %d) = %+v, %v, not %+v, %v", trader, id, got, ok, want, there)
	}
}

func holdLess(t *testing.T, l *level.Level, trader, id, qty int, want bool) {
	t.Helper()
	if got := l.Less(trader, id, qty); got != want {
		t.Errorf("Less(%d, %d, %d) = %v", trader, id, qty, got)
	}
}

func TestTheChaptersExample(t *testing.T) {
	a, b := rest(1, 1, 5, 2), rest(2, 1, 3, 0)
	l := levelOf(t, a, b)
	holdTake(t, l, 3, 4, false, hit(a, 2), hit(b, 2))
	holdLevel(t, l, 3, 4, left(b, 1), left(a, 3))
	holdTake(t, l, 2, 1, true)
	holdLevel(t, l, 3, 4, left(b, 1), left(a, 3))
}

// P9.1.

func TestNewHasItsPriceAndNoOrders(t *testing.T) {
	for _, price := range []int{1, 7, 258, 1 << 20, 0, -1, -7, 1<<20 + 1, math.MinInt, math.MinInt + 1, math.MaxInt - 1, math.MaxInt} {
		l := level.New(price)
		if l.Price() != price || l.Len() != 0 || l.Seen() != 0 || l.Whole() != 0 || len(l.Orders()) != 0 {
			t.Errorf("New(%d): Price %d, Len %d, Seen %d, Whole %d, Orders %v",
				price, l.Price(), l.Len(), l.Seen(), l.Whole(), l.Orders())
		}
	}
}

// The price is the level's: what rests there has no say in it.
func TestThePriceStays(t *testing.T) {
	for _, price := range []int{math.MinInt, -1, 0, 1, 8, math.MaxInt} {
		l := level.New(price)
		l.Add(rest(1, 1, 5, 2))
		l.Add(rest(2, 1, 5, 0))
		l.Take(3, 4)
		l.Less(12, 1, 1)
		l.Remove(11, 1)
		if l.Price() != price || l.Len() != 1 {
			t.Errorf("New(%d): Price %d, Len %d", price, l.Price(), l.Len())
		}
	}
}

func TestLevelsDoNotTouchEachOther(t *testing.T) {
	a, b, c := rest(1, 1, 5, 2), rest(2, 1, 3, 0), rest(3, 1, 4, 1)
	one, two, none := levelOf(t, a, b), levelOf(t, b, a, c), level.New(-3)
	one.Take(0, 3)
	holdLevel(t, two, 6, 12, b, a, c)
	two.Remove(11, 1)
	two.Less(13, 1, 2)
	holdLevel(t, one, 4, 5, left(b, 2), left(a, 3))
	holdLevel(t, two, 4, 5, b, left(c, 2))
	if none.Price() != -3 || none.Len() != 0 || one.Price() != 7 {
		t.Error(none.Price(), none.Len(), one.Price())
	}
}

// P9.2.

func TestAddShowsTheSmallerOfShowAndQty(t *testing.T) {
	for _, c := range []struct{ qty, show, visible int }{
		{5, 0, 5}, {5, 1, 1}, {5, 4, 4}, {5, 5, 5}, {1, 0, 1}, {1, 1, 1}, {2, 1, 1},
		{1 << 20, 0, 1 << 20}, {1 << 20, 1, 1}, {1 << 20, 1<<20 - 1, 1<<20 - 1}, {1 << 20, 1 << 20, 1 << 20},
	} {
		for _, kind := range []int{api.Limit, api.Post} {
			o := rest(1, 1, c.qty, c.show)
			o.Kind = kind
			holdLevel(t, levelOf(t, o), c.visible, c.qty, o)
		}
	}
}

func TestAddAppends(t *testing.T) {
	l := level.New(7)
	var all []api.Order
	seen, whole := 0, 0
	for i := range 200 {
		o := rest(i%8, i, 1+i*7%11, 0)
		o.Show = i % (o.Qty + 1)
		l.Add(o)
		all = append(all, o)
		whole += o.Qty
		if seen += o.Qty; o.Show > 0 {
			seen += o.Show - o.Qty
		}
		holdLevel(t, l, seen, whole, all...)
	}
}

// The fields that a level has no use for come back as they were.
func TestAddKeepsEveryField(t *testing.T) {
	o := api.Order{Trader: 31, Id: 1 << 30, Firm: 7, Side: api.Buy, Kind: api.Post, Price: 1 << 20, Qty: 9, Show: 4, Stop: 3}
	least := api.Order{Side: api.Sell, Kind: api.IOC, Price: 1, Qty: 1}
	l := levelOf(t, o, least)
	holdLevel(t, l, 5, 10, o, least)
	holdTake(t, l, 1, 6, false, hit(o, 4), hit(least, 1), hit(left(o, 5), 1))
	holdRemove(t, l, 31, 1<<30, left(o, 4), true)
	holdLevel(t, l, 0, 0)
}

func TestAddBehindATake(t *testing.T) {
	a, b, c := rest(1, 1, 9, 3), rest(2, 1, 3, 0), rest(3, 1, 4, 2)
	l := levelOf(t, a)
	holdTake(t, l, 0, 2, false, hit(a, 2))
	l.Add(b)
	holdLevel(t, l, 4, 10, left(a, 7), b)
	holdTake(t, l, 0, 1, false, hit(left(a, 7), 1))
	l.Add(c)
	holdLevel(t, l, 8, 13, b, left(a, 6), c)
}

// A level that was emptied is as a new one.
func TestAddToALevelThatWasEmptied(t *testing.T) {
	a, b := rest(1, 1, 3, 1), rest(2, 1, 2, 0)
	for _, empty := range []func(*level.Level){
		func(l *level.Level) { l.Take(0, 5) },
		func(l *level.Level) { l.Remove(11, 1); l.Remove(12, 1) },
		func(l *level.Level) { l.Remove(12, 1); l.Take(0, math.MaxInt) },
	} {
		l := levelOf(t, a, b)
		empty(l)
		holdLevel(t, l, 0, 0)
		l.Add(b)
		l.Add(a)
		holdLevel(t, l, 3, 5, b, a)
	}
}

// Orders that can't be are not specified, but no call may panic or hang on them.
func TestOrdersThatCannotBe(t *testing.T) {
	odd := []int{math.MinInt, math.MinInt + 1, -5, -1, 0, 1, 5}
	for _, qty := range append(odd, math.MaxInt) {
		for _, show := range append(odd, math.MaxInt) {
			if qty == math.MaxInt && 0 < show && show <= 5 {
				continue // more hits than any answer may have
			}
			for _, n := range append(odd, math.MaxInt) {
				l := level.New(7)
				for firm := range 3 {
					l.Add(api.Order{Trader: n, Id: n, Firm: firm, Qty: qty, Show: show})
				}
				l.Seen()
				l.Whole()
				l.Less(n, n, n)
				l.Take(n, n)
				l.Take(2, math.MaxInt)
				l.Orders()
				l.Remove(n, n)
				l.Less(n, n, 1)
				l.Take(-1, math.MaxInt)
			}
		}
	}
}

// P9.5.

func TestSumsAndOrders(t *testing.T) {
	a, b, c := rest(1, 1, 7, 3), rest(2, 1, 4, 0), rest(3, 1, 2, 2)
	l := level.New(7)
	holdLevel(t, l, 0, 0)
	l.Add(a)
	holdLevel(t, l, 3, 7, a)
	l.Add(b)
	holdLevel(t, l, 7, 11, a, b)
	l.Add(c)
	holdLevel(t, l, 9, 13, a, b, c)
	l.Take(0, 2)
	holdLevel(t, l, 7, 11, left(a, 5), b, c)
	l.Take(0, 1)
	holdLevel(t, l, 9, 10, b, c, left(a, 4))
	l.Remove(13, 1)
	holdLevel(t, l, 7, 8, b, left(a, 4))
	l.Less(12, 1, 1)
	holdLevel(t, l, 4, 5, left(b, 1), left(a, 4))
	l.Take(0, 5)
	holdLevel(t, l, 0, 0)
}

func TestSumsOfTheGreatestOrders(t *testing.T) {
	l := level.New(7)
	for i := range 1000 {
		l.Add(rest(1, i, 1<<20, i%2))
	}
	if l.Seen() != 500*(1<<20)+500 || l.Whole() != 1000*(1<<20) || l.Len() != 1000 {
		t.Error(l.Seen(), l.Whole(), l.Len())
	}
}

// Asking changes nothing, and asking again answers the same.
func TestAskingChangesNothing(t *testing.T) {
	a, b := rest(1, 1, 7, 3), rest(2, 1, 4, 0)
	l := levelOf(t, a, b)
	l.Take(0, 1)
	for range 5 {
		holdLevel(t, l, 6, 10, left(a, 6), b)
	}
}

// R2: what was handed out is new memory, with its unused capacity.

// spoil writes all over a slice and what lies behind it.
func spoil[T any](list []T, with T) {
	list = list[:cap(list)]
	for i := range list {
		list[i] = with
	}
}

func TestOrdersAreNewMemory(t *testing.T) {
	a, b, c := rest(1, 1, 7, 3), rest(2, 1, 4, 0), rest(3, 1, 2, 2)
	for n := range 9 {
		l := levelOf(t, a, b, c)
		for i := range n {
			l.Add(rest(4, i, 1, 0))
		}
		l.Take(0, 4)
		before := l.Orders()
		seen, whole := l.Seen(), l.Whole()
		got, other := l.Orders(), l.Orders()
		spoil(got, api.Order{Trader: 99, Qty: 1000, Show: 1000})
		holdLevel(t, l, seen, whole, before...)
		l.Add(rest(5, 1, 3, 1))
		holdLevel(t, l, seen+1, whole+3, append(slices.Clone(before), rest(5, 1, 3, 1))...)
		l.Take(0, 3)
		l.Less(11, 1, 1)
		l.Remove(13, 1)
		if !slices.Equal(other, before) {
			t.Errorf("a later call changed what was handed out: %+v", other)
		}
	}
}

func TestHitsAreNewMemory(t *testing.T) {
	for qty := 1; qty <= 13; qty++ {
		a, b, c := rest(1, 1, 7, 3), rest(2, 1, 4, 1), rest(3, 1, 9, 2)
		l, like := levelOf(t, a, b, c), levelOf(t, a, b, c)
		got, _ := l.Take(0, qty)
		want, _ := like.Take(0, qty)
		if !slices.Equal(got, want) {
			t.Fatalf("Take(0, %d) = %+v and %+v", qty, got, want)
		}
		kept := slices.Clone(want)
		spoil(got, api.Hit{Maker: api.Order{Trader: 99, Qty: 1000, Show: 1000}, Qty: 1000})
		holdLevel(t, l, like.Seen(), like.Whole(), like.Orders()...)
		like.Add(rest(5, 1, 3, 1))
		like.Less(13, 1, 1)
		like.Take(0, 3)
		like.Remove(13, 1)
		like.Take(0, math.MaxInt)
		if !slices.Equal(want, kept) {
			t.Errorf("a later call changed what was handed out: %+v", want)
		}
	}
}
