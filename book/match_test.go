package book_test

import (
	"testing"

	"jobber/api"
	"jobber/book"
)

// both runs a test as it is written, and with both sides turned about.
func both(t *testing.T, test func(t *testing.T, turn func(api.Order) api.Order)) {
	t.Run("straight", func(t *testing.T) { test(t, func(o api.Order) api.Order { return o }) })
	t.Run("turned", func(t *testing.T) { test(t, turned) })
}

func turnedAll(turn func(api.Order) api.Order, orders ...api.Order) []api.Order {
	all := make([]api.Order, len(orders))
	for i, o := range orders {
		all[i] = turn(o)
	}
	return all
}

// P10.3, P10.4: each kind with nothing to trade with.
func TestNothingToTradeWith(t *testing.T) {
	both(t, func(t *testing.T, turn func(api.Order) api.Order) {
		for _, c := range []struct {
			kind  int
			rests bool
			err   api.Errno
		}{{api.Limit, true, api.OK}, {api.Post, true, api.OK}, {api.Market, false, api.OK}, {api.IOC, false, api.OK}, {api.FOK, false, api.ErrFill}} {
			o := turn(as(c.kind, buy(2, 1, 50, 4)))
			for _, b := range []*book.Book{book.New(), bookOf(t, turn(buy(3, 1, 50, 9)))} {
				n := b.Len()
				holdAdd(t, b, o, api.Outcome{Left: 4, Rests: c.rests, Err: c.err})
				if c.rests {
					holdFind(t, b, 12, 1, o, true)
					n++
				} else {
					holdFind(t, b, 12, 1, api.Order{}, false)
				}
				holdCounts(t, b, n, 0, 0)
			}
		}
	})
}

// Each kind with less than it asks, with just that, and with more.
func TestLessJustAndMore(t *testing.T) {
	both(t, func(t *testing.T, turn func(api.Order) api.Order) {
		for _, kind := range []int{api.Limit, api.Market, api.IOC, api.FOK} {
			for qty := 1; qty <= 7; qty++ {
				a := turn(sell(1, 1, 50, qty))
				b := bookOf(t, a)
				o := turn(as(kind, buy(2, 1, 50, 4)))
				if kind == api.FOK && qty < 4 {
					holdAdd(t, b, o, api.Outcome{Left: 4, Err: api.ErrFill})
					holdSide(t, b, a.Side, a)
					holdCounts(t, b, 1, 0, 0)
					continue
				}
				want := api.Outcome{Fills: []api.Fill{fill(a, o, min(qty, 4), 1)}, Left: max(0, 4-qty)}
				want.Rests = kind == api.Limit && want.Left > 0
				holdAdd(t, b, o, want)
				var makers, takers []api.Order
				if qty > 4 {
					makers = append(makers, left(a, qty-4))
				}
				if want.Rests {
					takers = append(takers, left(o, 4-qty))
				}
				holdSide(t, b, a.Side, makers...)
				holdSide(t, b, o.Side, takers...)
				holdCounts(t, b, len(makers)+len(takers), a.Price, 1)
			}
		}
	})
}

// Prices that are better than the order's own, just at it and worse: it trades
// at the level's price, and not with what is worse.
func TestPricesBesideItsOwn(t *testing.T) {
	both(t, func(t *testing.T, turn func(api.Order) api.Order) {
		for _, kind := range []int{api.Limit, api.IOC, api.Market} {
			a, c, d := turn(sell(1, 1, 49, 2)), turn(sell(1, 2, 50, 2)), turn(sell(1, 3, 51, 2))
			b := bookOf(t, d, c, a)
			o := turn(as(kind, buy(2, 1, 50, 9)))
			want := api.Outcome{Fills: []api.Fill{fill(a, o, 2, 1), fill(c, left(o, 7), 2, 2)}, Left: 5, Rests: kind == api.Limit}
			if kind == api.Market {
				want.Fills, want.Left = append(want.Fills, fill(d, left(o, 5), 2, 3)), 3
				holdAdd(t, b, o, want)
				holdCounts(t, b, 0, d.Price, 3)
				continue
			}
			holdAdd(t, b, o, want)
			holdSide(t, b, d.Side, d)
			if b.Last() != c.Price || b.No() != 2 {
				t.Error(b.Last(), b.No())
			}
		}
	})
}

// Of one price that is one worse than its own nothing is taken by any kind but
// a Market.
func TestOneWorse(t *testing.T) {
	both(t, func(t *testing.T, turn func(api.Order) api.Order) {
		a := turn(sell(1, 1, 51, 5))
		for _, kind := range kinds() {
			b := bookOf(t, a)
			o := turn(as(kind, buy(2, 1, 50, 3)))
			switch kind {
			case api.Market:
				holdAdd(t, b, o, api.Outcome{Fills: []api.Fill{fill(a, o, 3, 1)}})
				continue
			case api.FOK:
				holdAdd(t, b, o, api.Outcome{Left: 3, Err: api.ErrFill})
			default:
				holdAdd(t, b, o, api.Outcome{Left: 3, Rests: kind != api.IOC})
			}
			holdSide(t, b, a.Side, a)
			holdCounts(t, b, len(b.Orders(o.Side))+1, 0, 0)
		}
	})
}

// The Fills one by one, over three levels and six orders, one of which shows
// itself in parts.
func TestFillsOneByOne(t *testing.T) {
	both(t, func(t *testing.T, turn func(api.Order) api.Order) {
		all := turnedAll(turn, showing(sell(1, 1, 48, 5), 2), sell(3, 1, 48, 3), sell(1, 2, 49, 4),
			sell(1, 3, 50, 1), sell(4, 1, 50, 6), sell(5, 1, 50, 2))
		b := bookOf(t, all[5:]...)
		b.Remove(15, 1)
		for _, i := range []int{3, 0, 2, 1, 4, 5} {
			holdRests(t, b, all[i])
		}
		o := turn(showing(buy(2, 1, 50, 17), 9))
		holdAdd(t, b, o, api.Outcome{Fills: []api.Fill{
			fill(all[0], o, 2, 1),
			fill(all[1], left(o, 15), 3, 2),
			fill(left(all[0], 3), left(o, 12), 2, 3),
			fill(left(all[0], 1), left(o, 10), 1, 4),
			fill(all[2], left(o, 9), 4, 5),
			fill(all[3], left(o, 5), 1, 6),
			fill(all[4], left(o, 4), 4, 7),
		}})
		holdSide(t, b, all[0].Side, left(all[4], 2), all[5])
		holdSide(t, b, o.Side)
		holdCounts(t, b, 2, all[4].Price, 7)
		o = turn(as(api.IOC, buy(6, 1, 60, 5)))
		holdAdd(t, b, o, api.Outcome{Fills: []api.Fill{
			fill(left(all[4], 2), o, 2, 8), fill(all[5], left(o, 3), 2, 9),
		}, Left: 1})
		holdCounts(t, b, 0, all[4].Price, 9)
	})
}

// At one price who came first trades first; what was left of it keeps its
// place, and what came by a trade stands behind all.
func TestTimePriority(t *testing.T) {
	both(t, func(t *testing.T, turn func(api.Order) api.Order) {
		all := turnedAll(turn, sell(1, 1, 50, 5), sell(3, 1, 50, 5), sell(4, 1, 50, 9))
		b := bookOf(t, all[0], all[1])
		o := turn(buy(2, 1, 50, 2))
		holdAdd(t, b, o, api.Outcome{Fills: []api.Fill{fill(all[0], o, 2, 1)}})
		maker := turn(buy(5, 1, 50, 4))
		b.Add(maker)
		holdSide(t, b, maker.Side)
		holdSide(t, b, all[0].Side, left(all[1], 4))
		maker = turn(buy(5, 1, 49, 4))
		holdRests(t, b, maker)
		x := turn(sell(4, 1, 49, 9))
		holdAdd(t, b, x, api.Outcome{Fills: []api.Fill{fill(maker, x, 4, 4)}, Left: 5, Rests: true})
		holdSide(t, b, x.Side, left(x, 5), left(all[1], 4))
		y := turn(sell(6, 1, 49, 1))
		holdRests(t, b, y)
		holdSide(t, b, x.Side, left(x, 5), y, left(all[1], 4))
	})
}

// An FOK over two levels, of 3 and of 4, and a third one that is worse.
func TestFOKJustWholeOneLessAndOneMore(t *testing.T) {
	both(t, func(t *testing.T, turn func(api.Order) api.Order) {
		all := turnedAll(turn, sell(1, 1, 49, 3), sell(3, 1, 50, 2), showing(sell(1, 2, 50, 2), 1), sell(1, 3, 51, 9))
		for qty := 1; qty <= 18; qty++ {
			for price := 48; price <= 51; price++ {
				b := bookOf(t, all...)
				reach := []int{0, 3, 7, 16}[price-48]
				o := turn(as(api.FOK, buy(2, 1, price, qty)))
				if qty > reach {
					holdAdd(t, b, o, api.Outcome{Left: qty, Err: api.ErrFill})
					holdSide(t, b, all[0].Side, all...)
					holdCounts(t, b, 4, 0, 0)
					continue
				}
				got := b.Add(o)
				sum := 0
				for _, f := range got.Fills {
					sum += f.Qty
				}
				if got.Err != api.OK || sum != qty || got.Left != 0 || got.Self || got.Rests || b.No() != len(got.Fills) {
					t.Errorf("an FOK of %d at %d: %+v", qty, price, got)
				}
				holdSide(t, b, o.Side)
			}
		}
	})
}

func TestFOKOfOneOrder(t *testing.T) {
	both(t, func(t *testing.T, turn func(api.Order) api.Order) {
		a := turn(sell(1, 1, 50, 5))
		for qty := 4; qty <= 6; qty++ {
			b := bookOf(t, a)
			o := turn(as(api.FOK, buy(2, 1, 50, qty)))
			if qty == 6 {
				holdAdd(t, b, o, api.Outcome{Left: 6, Err: api.ErrFill})
				holdSide(t, b, a.Side, a)
				continue
			}
			holdAdd(t, b, o, api.Outcome{Fills: []api.Fill{fill(a, o, qty, 1)}})
			holdCounts(t, b, 5-qty, a.Price, 1)
		}
	})
}

// An order of firm 2 stands behind one that shows 3 of 9 and one of 2: an FOK
// of firm 2 reaches no more than these 5, and one of another firm reaches all.
func TestFOKStoppedByItsOwnFirm(t *testing.T) {
	both(t, func(t *testing.T, turn func(api.Order) api.Order) {
		all := turnedAll(turn, showing(sell(1, 1, 50, 9), 3), sell(3, 1, 50, 2), showing(sell(2, 1, 50, 4), 2), sell(4, 1, 50, 6), sell(1, 2, 51, 6))
		for _, c := range [][2]int{{2, 5}, {5, 27}} {
			firm, reach := c[0], c[1]
			for qty := 1; qty <= 28; qty++ {
				b := bookOf(t, all...)
				o := turn(as(api.FOK, buy(firm, 9, 51, qty)))
				got := b.Add(o)
				if qty > reach {
					if !sameOutcome(got, api.Outcome{Order: o, Left: qty, Err: api.ErrFill}) {
						t.Errorf("firm %d, %d: %+v", firm, qty, got)
					}
					holdSide(t, b, all[0].Side, all...)
					continue
				}
				if got.Err != api.OK || got.Left != 0 || got.Self || len(got.Fills) == 0 {
					t.Errorf("firm %d, %d: %+v", firm, qty, got)
				}
			}
		}
	})
}

// Of the 3 that the first order shows, some are taken already: what is left of
// them is all that it gives ahead of the own order. Less bounds it further.
func TestFOKBehindAPartTakenInPart(t *testing.T) {
	both(t, func(t *testing.T, turn func(api.Order) api.Order) {
		all := turnedAll(turn, showing(sell(1, 1, 50, 9), 3), sell(3, 1, 50, 2), showing(sell(2, 1, 50, 8), 5), showing(sell(4, 1, 50, 6), 1))
		for taken := range 3 {
			for less := 1; less <= 9-taken; less++ {
				reach := min(3-taken, less) + 2
				for qty := reach - 1; qty <= reach+1; qty++ {
					b := bookOf(t, all...)
					if taken > 0 {
						b.Add(turn(buy(5, 1, 50, taken)))
					}
					holdLess(t, b, 11, 1, less, true)
					before := pictureOf(b)
					o := turn(as(api.FOK, buy(2, 9, 50, qty)))
					got := b.Add(o)
					if (got.Err == api.OK) != (qty <= reach) || got.Self {
						t.Errorf("%d taken, less %d, FOK of %d: %+v", taken, less, qty, got)
					}
					if got.Err != api.OK {
						holdPicture(t, b, before)
					}
				}
			}
		}
	})
}

// An order behind the own one, of which Less left fewer than it shows, counts
// for no more than is left of it.
func TestFOKAheadOfOrdersMadeLess(t *testing.T) {
	both(t, func(t *testing.T, turn func(api.Order) api.Order) {
		all := turnedAll(turn, sell(1, 1, 50, 4), showing(sell(2, 1, 50, 8), 5), showing(sell(3, 1, 50, 9), 7))
		for qty := 3; qty <= 5; qty++ {
			b := bookOf(t, all...)
			holdLess(t, b, 12, 1, 2, true)
			holdLess(t, b, 13, 1, 3, true)
			if got := b.Add(turn(as(api.FOK, buy(2, 9, 50, qty)))); (got.Err == api.OK) != (qty <= 4) {
				t.Errorf("FOK of %d: %+v", qty, got)
			}
		}
	})
}

// The own firm first, and behind others, on the first level and on the second.
func TestOwnFirm(t *testing.T) {
	both(t, func(t *testing.T, turn func(api.Order) api.Order) {
		own := func(price int) api.Order { return turn(sell(2, 5, price, 4)) }
		a, c, d := turn(sell(1, 1, 49, 3)), turn(sell(3, 1, 50, 3)), turn(sell(4, 1, 50, 3))
		for _, kind := range []int{api.Limit, api.Market, api.IOC} {
			o := turn(as(kind, buy(2, 1, 60, 20)))
			for _, rest := range [][]api.Order{
				{own(49), a, c, d},
				{own(48), a, c, d},
				{a, own(49), c, d},
				{a, own(50), c, d},
				{a, c, own(50), d},
				{a, c, d, own(50)},
				{a, c, d, own(51)},
			} {
				b := bookOf(t, rest...)
				want := api.Outcome{Left: 20, Self: true}
				i := 0
				for ; rest[i].Firm != 2; i++ {
					want.Fills = append(want.Fills, fill(rest[i], left(o, want.Left), 3, i+1))
					want.Left -= 3
				}
				holdAdd(t, b, o, want)
				holdSide(t, b, a.Side, rest[i:]...)
				holdSide(t, b, o.Side)
				if b.No() != i {
					t.Error(b.No())
				}
			}
		}
	})
}

// It is the firm that counts, not the trader; and one that is filled whole
// ahead of an own order did not meet it.
func TestOwnFirmIsOfOtherTraders(t *testing.T) {
	both(t, func(t *testing.T, turn func(api.Order) api.Order) {
		a, own := turn(sell(1, 1, 50, 3)), turn(sell(2, 5, 50, 4))
		own.Trader = 7
		b := bookOf(t, a, own)
		o := turn(buy(2, 1, 50, 3))
		holdAdd(t, b, o, api.Outcome{Fills: []api.Fill{fill(a, o, 3, 1)}})
		holdAdd(t, b, o, api.Outcome{Left: 3, Self: true})
		holdSide(t, b, a.Side, own)
		// The same trader's number with another firm is no reason to stop.
		x := turn(buy(3, 1, 50, 4))
		x.Trader = 7
		holdAdd(t, b, x, api.Outcome{Fills: []api.Fill{fill(own, x, 4, 2)}})
	})
}

// What is shown anew stands behind the own order, so it is not reached.
func TestOwnFirmBehindHiddenParts(t *testing.T) {
	both(t, func(t *testing.T, turn func(api.Order) api.Order) {
		a, own := turn(showing(sell(1, 1, 50, 7), 2)), turn(sell(2, 5, 50, 4))
		b := bookOf(t, a, own)
		o := turn(buy(2, 1, 50, 3))
		holdAdd(t, b, o, api.Outcome{Fills: []api.Fill{fill(a, o, 2, 1)}, Left: 1, Self: true})
		holdSide(t, b, a.Side, own, left(a, 5))
	})
}

// An own order that the price does not reach does not stop it.
func TestOwnFirmBeyondThePrice(t *testing.T) {
	both(t, func(t *testing.T, turn func(api.Order) api.Order) {
		own := turn(sell(2, 5, 51, 4))
		b := bookOf(t, own)
		o := turn(buy(2, 1, 50, 3))
		holdRests(t, b, o)
		holdAdd(t, b, turn(as(api.IOC, buy(2, 2, 50, 3))), api.Outcome{Left: 3})
		holdAdd(t, b, turn(buy(2, 3, 51, 3)), api.Outcome{Left: 3, Self: true})
		holdAdd(t, b, turn(as(api.Market, buy(2, 3, 51, 3))), api.Outcome{Left: 3, Self: true})
		holdSide(t, b, own.Side, own)
		holdSide(t, b, o.Side, o)
	})
}

// An order of 9 rests behind a trade with its Show at most what is left; its
// Fills and the Outcome have the Show that it came with.
func TestShowOfWhatRests(t *testing.T) {
	both(t, func(t *testing.T, turn func(api.Order) api.Order) {
		for show := range 10 {
			for taken := range 9 {
				b := book.New()
				o := turn(showing(buy(2, 1, 50, 9), show))
				want := api.Outcome{Left: 9 - taken, Rests: true}
				if taken > 0 {
					a := turn(sell(1, 1, 50, taken))
					holdRests(t, b, a)
					want.Fills = []api.Fill{fill(a, o, taken, 1)}
				}
				holdAdd(t, b, o, want)
				holdSide(t, b, o.Side, showing(left(o, 9-taken), min(show, 9-taken)))
				seen := 9 - taken
				if show > 0 {
					seen = min(seen, show)
				}
				holdDepth(t, b, o.Side, o.Price, seen)
			}
		}
	})
}

func TestShowOfAPost(t *testing.T) {
	o := showing(as(api.Post, buy(2, 1, 50, 9)), 4)
	b := bookOf(t, o)
	holdSide(t, b, api.Buy, o)
	holdDepth(t, b, api.Buy, 50, 4)
}

// A level whose orders are all gone is gone: the next one is the best then, and
// a new one may come to its place.
func TestLevelsThatWereTaken(t *testing.T) {
	both(t, func(t *testing.T, turn func(api.Order) api.Order) {
		all := turnedAll(turn, sell(1, 1, 49, 2), sell(1, 2, 50, 2), sell(1, 3, 51, 2))
		b := bookOf(t, all...)
		side := all[0].Side
		b.Add(turn(buy(2, 1, 49, 2)))
		holdDepth(t, b, side, all[1].Price, 2, all[2].Price, 2)
		b.Add(turn(buy(2, 1, 51, 3)))
		holdDepth(t, b, side, all[2].Price, 1)
		b.Add(turn(buy(2, 1, 51, 1)))
		holdDepth(t, b, side)
		holdRests(t, b, all[1])
		holdDepth(t, b, side, all[1].Price, 2)
		holdCounts(t, b, 1, all[2].Price, 4)
	})
}

// The greatest order there is, in parts of one, is taken in as many Fills.
func TestManyParts(t *testing.T) {
	b := bookOf(t, showing(sell(1, 1, 50, api.MaxQty), 1))
	got := b.Add(as(api.FOK, buy(2, 1, 50, api.MaxQty)))
	n := len(got.Fills)
	if got.Err != api.OK || got.Left != 0 || n != api.MaxQty || got.Fills[n-1].No != n || got.Fills[n-1].Taker.Qty != 1 || got.Fills[n-1].Maker.Qty != 1 {
		t.Errorf("%d Fills, Left %d, %v", n, got.Left, got.Err)
	}
	holdCounts(t, b, 0, 50, api.MaxQty)
}
