package book_test

import (
	"testing"

	"jobber/api"
	"jobber/book"
)

func holdRemove(t *testing.T, b *book.Book, trader, id int, want api.Order, there bool) {
	t.Helper()
	if got, ok := b.Remove(trader, id); got != want || ok != there {
		t.Errorf("Remove(%d, %d) = %+v, %v, not %+v, %v", trader, id, got, ok, want, there)
	}
}

func holdLess(t *testing.T, b *book.Book, trader, id, qty int, want bool) {
	t.Helper()
	if got := b.Less(trader, id, qty); got != want {
		t.Errorf("Less(%d, %d, %d) = %v", trader, id, qty, got)
	}
}

// nine are three levels of three orders each, in the order in which they stand
// on their side: firm 1 + i%3, id 1 + i/3.
func nine(turn func(api.Order) api.Order) []api.Order {
	var all []api.Order
	for i := range 9 {
		all = append(all, turn(showing(sell(1+i%3, 1+i/3, 50+i/3, 5+i), i%3*2)))
	}
	return all
}

// other is a side of two levels that stands against the nine.
func other(turn func(api.Order) api.Order) []api.Order {
	return turnedAll(turn, buy(4, 1, 49, 3), buy(4, 2, 48, 2))
}

func bookOfNine(t *testing.T, turn func(api.Order) api.Order) *book.Book {
	t.Helper()
	return bookOf(t, append(nine(turn), other(turn)...)...)
}

// depthOf works the depth out of orders of which nothing was taken.
func depthOf(orders []api.Order) []int {
	var pairs []int
	for _, o := range orders {
		n := len(pairs)
		if n == 0 || pairs[n-2] != o.Price {
			pairs = append(pairs, o.Price, 0)
			n += 2
		}
		if o.Show > 0 {
			pairs[n-1] += min(o.Show, o.Qty)
		} else {
			pairs[n-1] += o.Qty
		}
	}
	return pairs
}

func without(orders []api.Order, i int) []api.Order {
	return append(append([]api.Order{}, orders[:i]...), orders[i+1:]...)
}

func holdAll(t *testing.T, b *book.Book, n int, sides ...[]api.Order) {
	t.Helper()
	for _, orders := range sides {
		holdSide(t, b, orders[0].Side, orders...)
		holdDepth(t, b, orders[0].Side, depthOf(orders)...)
	}
	holdCounts(t, b, n, 0, 0)
}

// P10.5: the first, one between and the last order of the first level, of one
// between and of the last.
func TestRemoveOneOfThree(t *testing.T) {
	both(t, func(t *testing.T, turn func(api.Order) api.Order) {
		for i, o := range nine(turn) {
			b := bookOfNine(t, turn)
			holdRemove(t, b, o.Trader, o.Id, o, true)
			holdAll(t, b, 10, without(nine(turn), i), other(turn))
			holdFind(t, b, o.Trader, o.Id, api.Order{}, false)
			holdRemove(t, b, o.Trader, o.Id, api.Order{}, false)
			holdAll(t, b, 10, without(nine(turn), i), other(turn))
		}
	})
}

// The only order of the best level, of one between and of the last.
func TestRemoveTheOnlyOneOfItsLevel(t *testing.T) {
	both(t, func(t *testing.T, turn func(api.Order) api.Order) {
		all := turnedAll(turn, sell(1, 1, 50, 5), showing(sell(2, 1, 51, 6), 2), sell(1, 2, 52, 7), sell(1, 3, 53, 8))
		for i, o := range all {
			b := bookOf(t, append(other(turn), all...)...)
			holdRemove(t, b, o.Trader, o.Id, o, true)
			holdAll(t, b, 5, without(all, i), other(turn))
			// The level is gone, so that what was next is what a taker meets.
			first := without(all, i)[0]
			x := turn(as(api.IOC, buy(5, 1, 60, 1)))
			holdAdd(t, b, x, api.Outcome{Fills: []api.Fill{fill(first, x, 1, 1)}})
		}
	})
}

func TestRemoveAll(t *testing.T) {
	both(t, func(t *testing.T, turn func(api.Order) api.Order) {
		b, all := bookOfNine(t, turn), nine(turn)
		for len(all) > 1 {
			i := len(all) / 2
			holdRemove(t, b, all[i].Trader, all[i].Id, all[i], true)
			all = without(all, i)
			holdAll(t, b, len(all)+2, all, other(turn))
		}
		holdRemove(t, b, all[0].Trader, all[0].Id, all[0], true)
		holdSide(t, b, all[0].Side)
		holdDepth(t, b, all[0].Side)
		holdAll(t, b, 2, other(turn))
		// Nothing stands against what came before.
		holdRests(t, b, turn(buy(5, 1, 60, 3)))
	})
}

// absent are traders and ids that no order has together: another id, another
// trader, and both changed for each other.
func absent() [][2]int {
	return [][2]int{{11, 4}, {11, 0}, {11, -1}, {14, 3}, {15, 1}, {10, 1}, {1, 1}, {1, 11}, {0, 0}, {11 + 32, 1}, {11, 1 + 1<<30}, {-11, 1}}
}

func TestRemoveAndLessOfWhatIsNotThere(t *testing.T) {
	both(t, func(t *testing.T, turn func(api.Order) api.Order) {
		b := bookOfNine(t, turn)
		for _, w := range absent() {
			holdRemove(t, b, w[0], w[1], api.Order{}, false)
			holdRemove(t, book.New(), w[0], w[1], api.Order{}, false)
			for _, qty := range []int{-1, 0, 1, 2, 1 << 20} {
				holdLess(t, b, w[0], w[1], qty, false)
				holdLess(t, book.New(), w[0], w[1], qty, false)
			}
			holdAll(t, b, 11, nine(turn), other(turn))
		}
	})
}

// Less of each of the nine: it keeps its place, and the sums follow.
func TestLessOneOfThree(t *testing.T) {
	both(t, func(t *testing.T, turn func(api.Order) api.Order) {
		for i, o := range nine(turn) {
			for qty := 1; qty <= o.Qty; qty++ {
				b, all := bookOfNine(t, turn), nine(turn)
				holdLess(t, b, o.Trader, o.Id, qty, true)
				all[i].Qty = qty
				holdAll(t, b, 11, all, other(turn))
				holdFind(t, b, o.Trader, o.Id, all[i], true)
				holdLess(t, b, o.Trader, o.Id, qty+1, false)
				holdAll(t, b, 11, all, other(turn))
			}
		}
	})
}

func TestLessOfTheOnlyOneOfItsLevel(t *testing.T) {
	both(t, func(t *testing.T, turn func(api.Order) api.Order) {
		all := turnedAll(turn, sell(1, 1, 50, 5), showing(sell(2, 1, 51, 6), 2), sell(1, 2, 52, 7))
		for i, o := range all {
			b, want := bookOf(t, append(other(turn), all...)...), append([]api.Order{}, all...)
			holdLess(t, b, o.Trader, o.Id, 1, true)
			want[i].Qty = 1
			holdAll(t, b, 5, want, other(turn))
		}
	})
}

func TestLessToWhatCannotBe(t *testing.T) {
	both(t, func(t *testing.T, turn func(api.Order) api.Order) {
		b := bookOfNine(t, turn)
		for _, o := range append(nine(turn), other(turn)...) {
			for _, qty := range []int{0, -1, -o.Qty, o.Qty + 1, 1 << 20} {
				holdLess(t, b, o.Trader, o.Id, qty, false)
			}
			holdLess(t, b, o.Trader, o.Id, o.Qty, true)
		}
		holdAll(t, b, 11, nine(turn), other(turn))
	})
}

// The order as it stood: what was taken of it is gone, and what it shows is not
// shown anew by Less.
func TestRemoveAndLessBehindATrade(t *testing.T) {
	both(t, func(t *testing.T, turn func(api.Order) api.Order) {
		a, c := turn(showing(sell(1, 1, 50, 9), 4)), turn(sell(3, 1, 50, 5))
		b := bookOf(t, a, c)
		b.Add(turn(buy(2, 1, 50, 3)))
		holdLess(t, b, 11, 1, 7, false)
		holdLess(t, b, 11, 1, 5, true)
		holdDepth(t, b, a.Side, a.Price, 6)
		holdSide(t, b, a.Side, left(a, 5), c)
		holdRemove(t, b, 11, 1, left(a, 5), true)
		holdDepth(t, b, a.Side, a.Price, 5)
		b.Add(turn(buy(2, 1, 50, 4)))
		holdRemove(t, b, 13, 1, left(c, 1), true)
		holdCounts(t, b, 0, a.Price, 2)
		holdRemove(t, b, 13, 1, api.Order{}, false)
	})
}
