package change_test

import (
	"slices"
	"testing"

	"jobber/api"
	"jobber/change"
	"jobber/stops"
)

// P12.2: Mass. The traders are 0, 1, 5, 30 and 31.

func resting() []api.Order {
	return []api.Order{
		of(1, buy(1, 1, 49, 3)), of(0, buy(0, 1, 49, 4)), of(1, showing(buy(1, 2, 49, 9), 2)), of(31, buy(7, 1, 47, 5)),
		of(0, sell(0, 2, 51, 6)), of(30, as(api.Post, sell(6, 1, 51, 7))), of(31, sell(7, 2, 53, 8)), of(1, showing(sell(1, 3, 54, 8), 8)),
	}
}

func waiting() []api.Order {
	return []api.Order{
		behind(60, of(31, showing(buy(7, 3, 60, 7), 2))), behind(40, of(0, as(api.Market, sell(0, 3, 0, 9)))),
		behind(61, of(5, as(api.FOK, buy(5, 1, 60, 1)))), behind(41, of(1, as(api.IOC, sell(1, 4, 40, 2)))),
		behind(60, of(0, as(api.Post, buy(0, 4, 60, 3)))),
	}
}

// onOneSide are those of a side.
func onOneSide(side int, orders []api.Order) []api.Order {
	return slices.DeleteFunc(slices.Clone(orders), func(o api.Order) bool { return o.Side != side })
}

// split are the orders of these traders, and those of others.
func split(orders []api.Order, traders []int) (in, out []api.Order) {
	for _, o := range orders {
		if slices.Contains(traders, o.Trader) {
			in = append(in, o)
		} else {
			out = append(out, o)
		}
	}
	return in, out
}

// setOf has the bits of these traders.
func setOf(traders []int) uint64 {
	set := uint64(0)
	for _, n := range traders {
		set |= 1 << n
	}
	return set
}

// sets are none, one each, several and all, with traders that have no order
// and with bits beyond the traders there are.
func sets() [][]int {
	all := make([]int, 64)
	var sets [][]int
	for n := range all {
		all[n] = n
		sets = append(sets, []int{n})
	}
	return append(sets, nil, all, all[:32], all[32:], all[1:], all[:31], all[:63], []int{0, 1}, []int{0, 31}, []int{1, 5, 30},
		[]int{1, 2, 3}, []int{2, 3, 4, 29, 32, 33, 63}, []int{31, 32, 33}, []int{0, 63}, []int{0, 1, 5, 30, 31}, without(all, 5))
}

func TestMass(t *testing.T) {
	for _, orders := range [][]api.Order{
		nil, resting(), waiting(), slices.Concat(resting(), waiting()),
		onOneSide(api.Buy, resting()), onOneSide(api.Sell, resting()), onOneSide(api.Buy, waiting()), onOneSide(api.Sell, waiting()),
		slices.Concat(onOneSide(api.Buy, resting()), onOneSide(api.Sell, waiting())),
		slices.Concat(onOneSide(api.Sell, resting()), onOneSide(api.Buy, waiting())),
	} {
		for _, traders := range sets() {
			m := marketOf(t, orders...)
			holdAll(t, m, orders...)
			in, out := split(orders, traders)
			holdMass(t, m, setOf(traders), in...)
			holdPicture(t, m, pictureOf(marketOf(t, out...)))
			holdAll(t, m, out...)
			holdMass(t, m, setOf(traders))
			holdAll(t, m, out...)
		}
	}
}

// In the order of All, whatever the order of their coming was.
func TestTheOrderOfAMass(t *testing.T) {
	orders := slices.Concat(resting(), waiting())
	for _, from := range []int{0, 3, 7, 8, 11} {
		m := stops.New()
		for i := range orders {
			holdAdd(t, m, stays(orders[(i*5+from)%len(orders)]))
		}
		in, out := split(m.All(), []int{0, 1, 31})
		holdMass(t, m, 1|1<<1|1<<31, in...)
		holdAll(t, m, out...)
	}
}

// Behind trades: what goes is told as it stood, and nothing changes of the
// others, also not what is seen of one of which a part was taken.
func TestMassAsTheyStood(t *testing.T) {
	for _, turn := range turns() {
		for _, traders := range [][]int{nil, {11}, {12}, {13}, {14}, {11, 12}, {12, 13}, {11, 13}, {11, 12, 13, 14}} {
			a, c, d := turn(showing(sell(1, 1, 50, 9), 4)), turn(showing(sell(2, 1, 50, 9), 4)), turn(sell(3, 1, 50, 5))
			s, u := turn(behind(50, buy(4, 1, 40, 7))), turn(behind(60, buy(1, 2, 60, 7)))
			m, like := marketOf(t, a, c, d, s, u), marketOf(t, a, c, d, s, u)
			x := turn(as(api.IOC, buy(5, 1, 50, 7)))
			want := goes(x, 0, fill(a, x, 4, 1), fill(c, left(x, 3), 3, 2))
			holdAdd(t, m, want, rests(s, 7))
			holdAdd(t, like, want, rests(s, 7))
			all := []api.Order{left(c, 6), d, left(a, 5), behind(0, s), u}
			if a.Side == api.Sell {
				all = []api.Order{behind(0, s), left(c, 6), d, left(a, 5), u}
			}
			holdAll(t, m, all...)
			in, out := split(all, traders)
			holdMass(t, m, setOf(traders), in...)
			holdAll(t, m, out...)
			for _, o := range in {
				like.Remove(o.Trader, o.Id)
			}
			holdPicture(t, m, pictureOf(like))
		}
	}
}

// Their names are free again, there is room again, and none of them trades or
// is triggered any more.
func TestWhatWentWithAMassIsGone(t *testing.T) {
	m := stops.New()
	for i := range api.MaxBook / 2 {
		holdAdd(t, m, stays(sell(1, i, 50+i%3, 5)))
		holdAdd(t, m, stays(behind(50, buy(2, i, 50, 5))))
	}
	if got := change.Mass(m, 1<<11|1<<12); len(got) != api.MaxBook || m.Len() != 0 {
		t.Errorf("%d went, %d are left", len(got), m.Len())
	}
	trade(t, m, 50)
	holdAll(t, m)
	for i := range api.MaxBook / 2 {
		holdAdd(t, m, stays(sell(1, i, 50+i%3, 5)))
		holdAdd(t, m, stays(behind(60, buy(2, i, 50, 5))))
	}
	holdOpen(t, m, 11, 160)
	holdMass(t, m, 1<<13)
	if got := change.Mass(m, 1<<12); len(got) != api.MaxBook/2 || len(m.Waiting()) != 0 || m.Book().Len() != api.MaxBook/2 {
		t.Errorf("%d went, %d wait, %d rest", len(got), len(m.Waiting()), m.Book().Len())
	}
	holdBook(t, m, api.MaxBook/2, 50, 1)
}

// P12.3: Open.

func TestOpen(t *testing.T) {
	want := map[int]int{0: 4 + 6 + 9 + 3, 1: 3 + 9 + 8 + 2, 5: 1, 30: 7, 31: 5 + 8 + 7}
	m := marketOf(t, slices.Concat(resting(), waiting())...)
	for n := -64; n < 128; n++ {
		holdOpen(t, m, n, want[n])
		holdOpen(t, stops.New(), n, 0)
	}
	m = marketOf(t, resting()...)
	for n, want := range map[int]int{0: 10, 1: 20, 5: 0, 30: 7, 31: 13, 7: 0} {
		holdOpen(t, m, n, want)
	}
	m = marketOf(t, waiting()...)
	for n, want := range map[int]int{0: 12, 1: 2, 5: 1, 30: 0, 31: 7, 7: 0} {
		holdOpen(t, m, n, want)
	}
}

// Open asks and changes nothing.
func TestOpenOnlyLooks(t *testing.T) {
	m := marketOf(t, slices.Concat(resting(), waiting())...)
	before := pictureOf(m)
	for n := range 32 {
		change.Open(m, n)
		holdPicture(t, m, before)
	}
}

func TestTheMostThatCanBeOpen(t *testing.T) {
	m := stops.New()
	for i := range api.MaxBook {
		holdAdd(t, m, stays(behind(60*(i%2), showing(buy(1, i, 50, api.MaxQty), 1))))
	}
	holdOpen(t, m, 11, 64<<20)
	holdOpen(t, m, 12, 0)
}

// Behind each kind of call: hidden parts count, and what was traded or went
// does not.
func TestOpenBehindOtherCalls(t *testing.T) {
	for _, turn := range turns() {
		a, c, s := turn(showing(sell(1, 1, 50, 9), 4)), turn(sell(2, 1, 51, 5)), turn(behind(60, buy(1, 2, 60, 7)))
		m := marketOf(t, a, c, s)
		opens := func(first, second, third int) {
			t.Helper()
			holdOpen(t, m, 11, first)
			holdOpen(t, m, 12, second)
			holdOpen(t, m, 13, third)
		}
		opens(16, 5, 0)
		x := turn(buy(3, 1, 50, 6))
		holdAdd(t, m, goes(x, 0, fill(a, x, 4, 1), fill(left(a, 5), left(x, 2), 2, 2)))
		opens(10, 5, 0)
		y := turn(buy(3, 2, 50, 5))
		holdAdd(t, m, rests(y, 2, fill(left(a, 3), y, 2, 3), fill(left(a, 1), left(y, 3), 1, 4)))
		opens(7, 5, 2)
		holdLess(t, m, c, 4)
		opens(7, 4, 2)
		holdAmend(t, m, rests(left(c, 8), 8))
		opens(7, 8, 2)
		holdAmend(t, m, waits(left(s, 3)))
		opens(3, 8, 2)
		holdRefused(t, m, c.Trader, c.Id, c.Price, 0, api.ErrArg)
		opens(3, 8, 2)
		to := turn(buy(3, 2, 51, 6))
		holdAmend(t, m, goes(to, 0, fill(left(c, 8), to, 6, 5)))
		opens(3, 2, 0)
		m.Remove(c.Trader, c.Id)
		opens(3, 0, 0)
		holdMass(t, m, 1<<11, left(s, 3))
		opens(0, 0, 0)
	}
}
