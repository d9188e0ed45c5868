package book_test

import (
	"math"
	"math/rand"
	"slices"
	"testing"

	"jobber/api"
	"jobber/book"
	"jobber/order"
)

// A model of a book without levels: a heap of orders, of which the best one is
// looked for anew for each single unit that is traded.
type model struct {
	rows           []row
	turn, last, no int
}

type row struct {
	order   api.Order
	visible int
	turn    int // when it came to its place
}

// add puts an order behind all that came before it.
func (m *model) add(o api.Order) {
	m.turn++
	r := row{order: o, visible: o.Qty, turn: m.turn}
	if o.Show > 0 && o.Show < o.Qty {
		r.visible = o.Show
	}
	m.rows = append(m.rows, r)
}

// of are the places of a side's rows, in their order.
func (m *model) of(side int) []int {
	var places []int
	for i, r := range m.rows {
		if r.order.Side == side {
			places = append(places, i)
		}
	}
	slices.SortFunc(places, func(i, j int) int {
		a, b := m.rows[i], m.rows[j]
		switch {
		case a.order.Price == b.order.Price:
			return a.turn - b.turn
		case side == api.Buy:
			return b.order.Price - a.order.Price
		}
		return a.order.Price - b.order.Price
	})
	return places
}

// best is the place of the row that o meets first, or -1.
func (m *model) best(o api.Order) int {
	places := m.of(api.Buy + api.Sell - o.Side)
	if len(places) == 0 {
		return -1
	}
	price := m.rows[places[0]].order.Price
	if o.Kind != api.Market && (o.Side == api.Buy && price > o.Price || o.Side == api.Sell && price < o.Price) {
		return -1
	}
	return places[0]
}

func (m *model) drop(i int) { m.rows = slices.Concat(m.rows[:i], m.rows[i+1:]) }

// match trades unit by unit: those of one part of one order are one Fill.
func (m *model) match(o api.Order) api.Outcome {
	out := api.Outcome{Order: o, Left: o.Qty}
	for within := false; out.Left > 0; {
		i := m.best(o)
		if i < 0 {
			break
		}
		r := &m.rows[i]
		if out.Self = r.order.Firm == o.Firm; out.Self {
			break
		}
		if !within {
			m.no, m.last = m.no+1, r.order.Price
			out.Fills = append(out.Fills, api.Fill{Maker: r.order, Taker: left(o, out.Left), Price: m.last, No: m.no})
		}
		out.Fills[len(out.Fills)-1].Qty++
		out.Left--
		r.order.Qty--
		r.visible--
		if within = r.visible > 0; !within {
			m.next(i)
		}
	}
	return out
}

// next is for a part that is gone: the order comes anew, or goes too.
func (m *model) next(i int) {
	o := m.rows[i].order
	m.drop(i)
	if o.Qty > 0 {
		m.add(o)
	}
}

func (m *model) copy() *model {
	c := *m
	c.rows = slices.Clone(m.rows)
	return &c
}

func (m *model) refusal(o api.Order) api.Errno {
	rests := o.Kind == api.Limit || o.Kind == api.Post
	switch {
	case order.Right(o) != api.OK || o.Stop > 0:
		return api.ErrArg
	case m.find(o.Trader, o.Id) >= 0:
		return api.ErrThere
	case rests && len(m.rows) == api.MaxBook:
		return api.ErrFull
	case o.Kind == api.Post && m.best(o) >= 0:
		return api.ErrTake
	case o.Kind == api.FOK && m.copy().match(o).Left > 0:
		return api.ErrFill
	}
	return api.OK
}

func (m *model) Add(o api.Order) api.Outcome {
	if err := m.refusal(o); err != api.OK {
		return api.Outcome{Order: o, Left: o.Qty, Err: err}
	}
	out := m.match(o)
	if o.Kind != api.Limit && o.Kind != api.Post || out.Left == 0 || out.Self {
		return out
	}
	if o.Qty = out.Left; o.Show > o.Qty {
		o.Show = o.Qty
	}
	m.add(o)
	out.Rests = true
	return out
}

func (m *model) find(trader, id int) int {
	return slices.IndexFunc(m.rows, func(r row) bool { return r.order.Trader == trader && r.order.Id == id })
}

func (m *model) remove(trader, id int) (api.Order, bool) {
	i := m.find(trader, id)
	if i < 0 {
		return api.Order{}, false
	}
	o := m.rows[i].order
	m.drop(i)
	return o, true
}

func (m *model) less(trader, id, qty int) bool {
	i := m.find(trader, id)
	if i < 0 || qty < 1 || qty > m.rows[i].order.Qty {
		return false
	}
	m.rows[i].order.Qty = qty
	m.rows[i].visible = min(m.rows[i].visible, qty)
	return true
}

func (m *model) side(side int) ([]api.Order, []api.Hit) {
	var orders []api.Order
	var depth []api.Hit
	for _, i := range m.of(side) {
		o := m.rows[i].order
		orders = append(orders, o)
		if n := len(depth); n == 0 || depth[n-1].Maker.Price != o.Price {
			depth = append(depth, hit(api.Order{Side: side, Price: o.Price}, 0))
		}
		depth[len(depth)-1].Qty += m.rows[i].visible
	}
	return orders, depth
}

func (m *model) picture() picture {
	p := picture{len: len(m.rows), last: m.last, no: m.no}
	p.buys, p.bids = m.side(api.Buy)
	p.sells, p.asks = m.side(api.Sell)
	return p
}

// market is from where the orders of a run are drawn.
type market struct {
	buys, sells, spread int // the lowest prices, and how far they go
	firms, ids, most    int
}

func markets() []market {
	return []market{
		{buys: 50, sells: 50, spread: 4, firms: 4, ids: 6, most: 12},    // much trade
		{buys: 46, sells: 52, spread: 8, firms: 3, ids: 30, most: 9},    // less
		{buys: 1, sells: 50, spread: 70, firms: 8, ids: 400, most: 30},  // many levels
		{buys: 40, sells: 46, spread: 6, firms: 8, ids: 900, most: 4},   // a book that fills up
		{buys: 50, sells: 51, spread: 2, firms: 2, ids: 900, most: 100}, // few levels, much of one's own
	}
}

func (k market) draw(r *rand.Rand) api.Order {
	trader := r.Intn(2 * k.firms)
	o := api.Order{Trader: trader, Id: r.Intn(k.ids), Firm: trader % k.firms, Kind: []int{api.Limit, api.Limit, api.Limit, api.Post, api.Market, api.IOC, api.FOK, api.FOK}[r.Intn(8)], Qty: 1 + r.Intn(k.most)}
	if o.Side = 1 + r.Intn(2); o.Side == api.Buy {
		o.Price = k.buys + r.Intn(k.spread)
	} else {
		o.Price = k.sells + r.Intn(k.spread)
	}
	if r.Intn(2) == 0 && (o.Kind == api.Limit || o.Kind == api.Post) {
		o.Show = r.Intn(o.Qty + 1)
	}
	if o.Kind == api.Market {
		o.Price = 0
	}
	if r.Intn(40) == 0 {
		*[]*int{&o.Price, &o.Qty, &o.Show, &o.Stop, &o.Trader}[r.Intn(5)] = r.Intn(3) - 1
	}
	return o
}

// drawn is the trader and the id of one that rests, or mostly of none.
func drawn(r *rand.Rand, m *model) (int, int) {
	if n := len(m.rows); n > 0 && r.Intn(4) > 0 {
		o := m.rows[r.Intn(n)].order
		return o.Trader, o.Id
	}
	return r.Intn(16), r.Intn(20)
}

// call makes one drawn call of both, and tells what the Add among them came to.
func call(t *testing.T, r *rand.Rand, k market, b *book.Book, m *model) (api.Outcome, bool) {
	t.Helper()
	switch trader, id := drawn(r, m); r.Intn(10) {
	case 0:
		o, ok := m.remove(trader, id)
		holdRemove(t, b, trader, id, o, ok)
	case 1, 2:
		qty := []int{1 + r.Intn(k.most), 1 + r.Intn(3), r.Intn(40) - 5, math.MinInt, math.MaxInt}[r.Intn(5)]
		holdLess(t, b, trader, id, qty, m.less(trader, id, qty))
	case 3:
		o, ok := api.Order{}, false
		if i := m.find(trader, id); i >= 0 {
			o, ok = m.rows[i].order, true
		}
		holdFind(t, b, trader, id, o, ok)
	default:
		o := k.draw(r)
		want, got := m.Add(o), b.Add(o)
		if !sameOutcome(got, want) {
			t.Errorf("Add = %+v, not %+v", got, want)
		}
		return got, true
	}
	return api.Outcome{}, false
}

// P10.1 to P10.6: many drawn calls against the model. Each outcome that there
// is must come often enough to count.
func TestManyCallsAgainstTheModel(t *testing.T) {
	r := rand.New(rand.NewSource(10))
	var errs [api.ErrFill + 1]int
	rests, selves, whole := 0, 0, 0
	for run := range 80 {
		k := markets()[run%len(markets())]
		b, m := book.New(), &model{}
		for range 600 {
			got, added := call(t, r, k, b, m)
			holdPicture(t, b, m.picture())
			if t.Failed() {
				return
			}
			if !added {
				continue
			}
			errs[got.Err]++
			if got.Rests && len(got.Fills) > 0 {
				rests++
			}
			if got.Self && len(got.Fills) > 0 {
				selves++
			}
			if got.Order.Kind == api.FOK && len(got.Fills) > 1 {
				whole++
			}
		}
	}
	for _, err := range []api.Errno{api.OK, api.ErrArg, api.ErrThere, api.ErrFull, api.ErrTake, api.ErrFill} {
		if errs[err] < 200 {
			t.Errorf("error %d came %d times", err, errs[err])
		}
	}
	if rests < 100 || selves < 100 || whole < 50 {
		t.Errorf("%d rest behind a trade, %d met their own firm behind one, %d are whole by several", rests, selves, whole)
	}
}

// P10.7.

// holdUncrossed holds that no buyer and seller of two firms cross.
func holdUncrossed(t *testing.T, b *book.Book) {
	t.Helper()
	for _, x := range b.Orders(api.Buy) {
		for _, y := range b.Orders(api.Sell) {
			if x.Firm != y.Firm && x.Price >= y.Price {
				t.Errorf("%+v and %+v cross", x, y)
			}
		}
	}
}

func quantity(orders []api.Order) int {
	n := 0
	for _, o := range orders {
		n += o.Qty
	}
	return n
}

// ledger is what was bought and sold, put in and taken out of each side, by
// the answers of the calls alone.
type ledger struct{ bought, sold, buys, sells int }

// put books a quantity that came to a side, or went from it.
func (l *ledger) put(side, qty int) {
	if side == api.Buy {
		l.buys += qty
	} else {
		l.sells += qty
	}
}

// fill books a Fill for both who took part in it.
func (l *ledger) fill(f api.Fill) {
	for _, o := range []api.Order{f.Maker, f.Taker} {
		if o.Side == api.Buy {
			l.bought += f.Qty
		} else {
			l.sold += f.Qty
		}
	}
	l.put(f.Maker.Side, -f.Qty)
}

// holdOutcome holds an answer of Add against itself, and books it.
func (l *ledger) holdOutcome(t *testing.T, b *book.Book, out api.Outcome) {
	t.Helper()
	rest := out.Order.Qty
	for _, f := range out.Fills {
		if f.Qty < 1 || f.Taker != left(out.Order, rest) || f.Qty > f.Maker.Qty || f.Maker.Side == f.Taker.Side ||
			f.Maker.Firm == f.Taker.Firm || f.Price != f.Maker.Price || !order.Crosses(f.Taker, f.Price) {
			t.Errorf("%+v of %+v, of which %d are left", f, out.Order, rest)
		}
		rest -= f.Qty
		l.fill(f)
	}
	if out.Left != rest || out.Waits || out.Err != api.OK && (out.Rests || out.Self || len(out.Fills) > 0) {
		t.Errorf("%+v: %d are left", out, rest)
	}
	o, there := b.Find(out.Order.Trader, out.Order.Id)
	if out.Err == api.OK && there != out.Rests || out.Rests && o.Qty != out.Left {
		t.Errorf("%+v rests as %+v", out, o)
	}
	if out.Rests {
		l.put(out.Order.Side, out.Left)
	}
}

// step makes one drawn call, and books what it answers.
func (l *ledger) step(t *testing.T, r *rand.Rand, k market, b *book.Book) {
	t.Helper()
	resting := slices.Concat(b.Orders(api.Buy), b.Orders(api.Sell))
	n := r.Intn(5)
	if n > 1 || len(resting) == 0 {
		l.holdOutcome(t, b, b.Add(k.draw(r)))
		return
	}
	o := resting[r.Intn(len(resting))]
	if n == 0 {
		got, _ := b.Remove(o.Trader, o.Id)
		l.put(o.Side, -got.Qty)
	} else if qty := 1 + r.Intn(k.most); b.Less(o.Trader, o.Id, qty) {
		l.put(o.Side, qty-o.Qty)
	}
}

func TestQuantitiesAddUpAndNothingCrosses(t *testing.T) {
	r := rand.New(rand.NewSource(107))
	for run := range 80 {
		k := markets()[run%len(markets())]
		b, l := book.New(), &ledger{}
		for range 600 {
			l.step(t, r, k, b)
			holdUncrossed(t, b)
			if l.bought != l.sold || quantity(b.Orders(api.Buy)) != l.buys || quantity(b.Orders(api.Sell)) != l.sells {
				t.Errorf("%+v, but %+v rest", l, pictureOf(b))
			}
			if b.Len() > api.MaxBook {
				t.Errorf("Len() = %d", b.Len())
			}
			if t.Failed() {
				return
			}
		}
		if l.bought == 0 {
			t.Error("no trade")
		}
	}
}
