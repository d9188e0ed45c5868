package book

import (
	"slices"

	"jobber/api"
	"jobber/level"
	"jobber/order"
)

// ladder holds the levels of one side, the best one first. None of them is
// without orders.
type ladder struct {
	side   int
	levels []*level.Level
}

// crossed tells whether o crosses the best price.
func (l *ladder) crossed(o api.Order) bool {
	return len(l.levels) > 0 && order.Crosses(o, l.levels[0].Price())
}

// gives is what o would be given if nothing but its price and its own firm
// bounded it. It only looks: an FOK that is refused must leave no trace, and a
// level can't take back what it gave.
func (l *ladder) gives(o api.Order) int {
	sum := 0
	for _, lvl := range l.levels {
		if !order.Crosses(o, lvl.Price()) {
			break
		}
		qty, own := reach(lvl, o.Firm)
		sum += qty
		if own {
			break
		}
	}
	return sum
}

// at is the level of this price, which is put in its place if there is none.
func (l *ladder) at(price int) *level.Level {
	i := 0
	for i < len(l.levels) && order.Better(l.side, l.levels[i].Price(), price) {
		i++
	}
	if i == len(l.levels) || l.levels[i].Price() != price {
		l.levels = slices.Insert(l.levels, i, level.New(price))
	}
	return l.levels[i]
}

func (l *ladder) dropIfEmpty(i int) {
	if l.levels[i].Len() == 0 {
		l.levels = slices.Delete(l.levels, i, i+1)
	}
}

func (l *ladder) remove(trader, id int) (api.Order, bool) {
	for i, lvl := range l.levels {
		if o, ok := lvl.Remove(trader, id); ok {
			l.dropIfEmpty(i)
			return o, true
		}
	}
	return api.Order{}, false
}

// less asks every level: one at which the order does not rest refuses.
func (l *ladder) less(trader, id, qty int) bool {
	for _, lvl := range l.levels {
		if lvl.Less(trader, id, qty) {
			return true
		}
	}
	return false
}

func (l *ladder) depth() []api.Hit {
	var depth []api.Hit
	for _, lvl := range l.levels {
		depth = append(depth, api.Hit{Maker: api.Order{Side: l.side, Price: lvl.Price()}, Qty: lvl.Seen()})
	}
	return depth
}

func (l *ladder) orders() []api.Order {
	var orders []api.Order
	for _, lvl := range l.levels {
		orders = append(orders, lvl.Orders()...)
	}
	return orders
}

func (l *ladder) count() int {
	n := 0
	for _, lvl := range l.levels {
		n += lvl.Len()
	}
	return n
}

// reach is the most that a firm can take of a level, and whether an order of
// its own stops it there. What is ahead of that order gives only what is
// visible of it: what is shown anew stands behind.
func reach(lvl *level.Level, firm int) (int, bool) {
	orders := lvl.Orders()
	own := slices.IndexFunc(orders, func(o api.Order) bool { return o.Firm == firm })
	switch own {
	case -1:
		return lvl.Whole(), false
	case 0:
		return 0, true
	}
	// What is visible of the first order may be taken in part, and only the
	// level knows how much of it is: so take off the sum what does not count.
	qty := lvl.Seen()
	for _, o := range orders[own:] {
		qty -= visible(o)
	}
	return qty, true
}

// visible is the visible quantity (P9.2) of an order that is not the first one
// of its level: nothing was taken of it since it came to its place.
func visible(o api.Order) int {
	if o.Show > 0 {
		return min(o.Show, o.Qty)
	}
	return o.Qty
}
