package change_test

import (
	"math/rand"
	"slices"
	"testing"

	"jobber/api"
	"jobber/stops"
)

// P12.1: an order that is changed does what it would do if it came anew. Where
// a case is tried turned as well, what is said of it here is said of the case
// as it is written.

func TestAnAmendThatTradesInPart(t *testing.T) {
	for _, turn := range turns() {
		a, o, c := turn(sell(1, 1, 50, 3)), turn(buy(2, 1, 48, 8)), turn(buy(3, 1, 48, 5))
		for _, price := range []int{50, 51, 99} {
			for _, qty := range []int{4, 8, 9} {
				m := marketOf(t, a, o, c)
				to := left(at(turn(buy(2, 1, price, 1)).Price, o), qty)
				holdAmend(t, m, rests(to, qty-3, fill(a, to, 3, 1)))
				holdAll(t, m, left(to, qty-3), c)
				holdBook(t, m, 2, a.Price, 1)
			}
		}
	}
}

func TestAnAmendThatTradesAll(t *testing.T) {
	for _, turn := range turns() {
		a, o, c := turn(sell(1, 1, 50, 8)), turn(buy(2, 1, 48, 8)), turn(buy(3, 1, 48, 5))
		for _, qty := range []int{1, 7, 8} {
			m := marketOf(t, a, o, c)
			to := turn(buy(2, 1, 50, qty))
			holdAmend(t, m, goes(to, 0, fill(a, to, qty, 1)))
			holdBook(t, m, 2-qty/8, a.Price, 1)
			holdOpen(t, m, 11, 8-qty)
			holdRefused(t, m, o.Trader, o.Id, o.Price, o.Qty, api.ErrNone)
		}
	}
}

func TestAnAmendThatTradesWithSeveral(t *testing.T) {
	for _, turn := range turns() {
		a, c, d := turn(sell(1, 1, 50, 3)), turn(showing(sell(3, 1, 50, 4), 2)), turn(sell(4, 1, 51, 5))
		o := turn(buy(2, 1, 48, 2))
		m := marketOf(t, d, a, c, o)
		to := turn(buy(2, 1, 51, 10))
		holdAmend(t, m, goes(to, 0, fill(a, to, 3, 1), fill(c, left(to, 7), 2, 2), fill(left(c, 2), left(to, 5), 2, 3), fill(d, left(to, 3), 3, 4)))
		holdAll(t, m, left(d, 2))
		// With the last of them it takes all there is, and rests with the rest.
		m = marketOf(t, d, a, c, o)
		to = turn(buy(2, 1, 60, 14))
		holdAmend(t, m, rests(to, 2, fill(a, to, 3, 1), fill(c, left(to, 11), 2, 2), fill(left(c, 2), left(to, 9), 2, 3), fill(d, left(to, 7), 5, 4)))
		holdAll(t, m, left(to, 2))
		holdBook(t, m, 1, d.Price, 4)
	}
}

// An iceberg trades with the Show that it has behind the change.
func TestAnAmendOfAnIcebergThatTrades(t *testing.T) {
	for _, turn := range turns() {
		a, o := turn(sell(1, 1, 50, 3)), turn(showing(buy(2, 1, 48, 9), 6))
		for _, c := range [][4]int{{9, 6, 6, 6}, {8, 6, 5, 5}, {5, 5, 2, 2}, {20, 6, 17, 6}} {
			m := marketOf(t, a, o)
			to := turn(showing(buy(2, 1, 50, c[0]), c[1]))
			holdAmend(t, m, rests(to, c[2], fill(a, to, 3, 1)))
			holdAll(t, m, showing(left(to, c[2]), c[3]))
			holdDepth(t, m, to.Side, to.Price, c[3])
		}
		m := marketOf(t, a, o)
		to := turn(showing(buy(2, 1, 50, 2), 2))
		holdAmend(t, m, goes(to, 0, fill(a, to, 2, 1)))
		holdAll(t, m, left(a, 1))
	}
}

// Stopped by an order of its own firm: at once, and behind a trade. What is
// left of it goes.
func TestAnAmendThatMeetsItsOwnFirm(t *testing.T) {
	for _, turn := range turns() {
		a, b := turn(sell(1, 1, 50, 3)), turn(sell(2, 2, 51, 4))
		o := turn(buy(2, 1, 48, 8))
		b.Trader = 20
		m := marketOf(t, b, o)
		to := turn(buy(2, 1, 51, 5))
		holdAmend(t, m, meets(to, 5))
		holdAll(t, m, b)
		m = marketOf(t, a, b, o)
		holdAmend(t, m, meets(to, 2, fill(a, to, 3, 1)))
		holdAll(t, m, b)
		// Ahead of the order of its own firm all is well.
		m = marketOf(t, a, b, o)
		to = turn(buy(2, 1, 50, 5))
		holdAmend(t, m, rests(to, 2, fill(a, to, 3, 1)))
		m = marketOf(t, a, b, o)
		to = turn(buy(2, 1, 51, 3))
		holdAmend(t, m, goes(to, 0, fill(a, to, 3, 1)))
	}
}

// A Post that would take is refused, and gone.
func TestAPostThatIsRefused(t *testing.T) {
	for _, turn := range turns() {
		a, p, c := turn(sell(1, 1, 50, 3)), turn(as(api.Post, showing(buy(2, 1, 48, 8), 4))), turn(buy(3, 1, 47, 5))
		for _, price := range []int{50, 51, 99} {
			for _, qty := range []int{1, 8, 9} {
				m := marketOf(t, a, p, c)
				to := turn(as(api.Post, showing(buy(2, 1, price, qty), min(4, qty))))
				holdAmend(t, m, fails(to, api.ErrTake))
				if all := m.All(); len(all) != 2 || slices.Contains(all, p) {
					t.Errorf("All() = %+v", all)
				}
				holdBook(t, m, 2, 0, 0)
				holdRefused(t, m, p.Trader, p.Id, p.Price, p.Qty, api.ErrNone)
			}
		}
		m := marketOf(t, a, p, c)
		holdAmend(t, m, rests(turn(as(api.Post, showing(buy(2, 1, 49, 9), 4))), 9))
	}
}

// The cascade.

func TestAnAmendThatTriggersOthers(t *testing.T) {
	for _, turn := range turns() {
		a, c := turn(sell(1, 1, 50, 3)), turn(sell(1, 2, 52, 9))
		o := turn(buy(2, 1, 48, 8))
		s, u := turn(behind(52, buy(3, 1, 52, 2))), turn(behind(50, as(api.Market, buy(4, 1, 0, 3))))
		p, v := turn(behind(51, as(api.Post, buy(5, 1, 52, 2)))), turn(behind(53, buy(5, 2, 52, 2)))
		m := marketOf(t, a, c, o, s, u, p, v)
		to := turn(buy(2, 1, 50, 4))
		holdAmend(t, m, rests(to, 1, fill(a, to, 3, 1)),
			goes(u, 0, fill(c, u, 3, 2)), goes(s, 0, fill(left(c, 6), s, 2, 3)), fails(p, api.ErrTake))
		if got := m.Waiting(); len(got) != 1 || got[0] != v {
			t.Errorf("Waiting() = %+v", got)
		}
		holdBook(t, m, 2, c.Price, 3)
	}
}

// One that only comes to rest, or keeps its place, triggers nothing, wherever
// its price is.
func TestAnAmendThatTriggersNone(t *testing.T) {
	for _, turn := range turns() {
		o, s, u := turn(buy(2, 1, 48, 8)), turn(behind(55, buy(3, 1, 52, 2))), turn(behind(45, sell(4, 1, 52, 2)))
		m := marketOf(t, o, s, u)
		for _, price := range []int{55, 56, 45, 44, 48} {
			holdAmend(t, m, rests(at(turn(buy(2, 1, price, 1)).Price, o), 8))
		}
		holdLess(t, m, o, 7)
		holdAll(t, m, left(o, 7), s, u)
		holdBook(t, m, 1, 0, 0)
	}
}

// What comes of an order that is changed is what comes of Market.Add of it in
// a market without it: orders drawn, in markets drawn.

// drawnMarkets are two markets with the same orders, drawn from few prices, and
// among them some that were traded with.
func drawnMarkets(r *rand.Rand) (m, like *stops.Market) {
	m, like = stops.New(), stops.New()
	for range 12 + r.Intn(20) {
		o := drawers()[r.Intn(len(drawers()))].draw(r)
		m.Add(o)
		like.Add(o)
	}
	return m, like
}

func TestAnAmendIsARemoveAndAnAdd(t *testing.T) {
	r := rand.New(rand.NewSource(121))
	traded, triggered := 0, 0
	for range 6000 {
		m, like := drawnMarkets(r)
		o := drawn(r, m)
		price, qty := drawnChange(r, o)
		if !mayBe(o.Kind, price, qty) || o.Kind == 0 || o.Stop == 0 && price == o.Price && qty <= o.Qty {
			continue
		}
		like.Remove(o.Trader, o.Id)
		to := left(at(price, o), qty)
		to.Show = min(o.Show, qty)
		want, got := like.Add(to), amend(t, m, o, price, qty)
		holdOutcomes(t, got, want...)
		holdPicture(t, m, pictureOf(like))
		traded += len(got[0].Fills)
		triggered += len(got) - 1
		if t.Failed() {
			return
		}
	}
	if traded < 250 || triggered < 250 {
		t.Errorf("%d were traded, %d triggered", traded, triggered)
	}
}

// T5: a change to a price beyond the other side's trades at the other side's.
func TestAnAmendTradesAtThePricesThatStand(t *testing.T) {
	for _, turn := range turns() {
		a, c, o := turn(sell(1, 1, 50, 3)), turn(sell(1, 2, 55, 3)), turn(buy(2, 1, 48, 6))
		m, to := marketOf(t, a, c, o), turn(buy(2, 1, 90, 6))
		holdAmend(t, m, goes(to, 0, fill(a, to, 3, 1), fill(c, left(to, 3), 3, 2)))
		holdAll(t, m)
		holdBook(t, m, 0, c.Price, 2)
	}
}
