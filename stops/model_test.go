package stops_test

import (
	"math/rand"
	"slices"
	"testing"

	"jobber/api"
	"jobber/book"
	"jobber/order"
	"jobber/stops"
)

// A model of a market: a book, and a heap of orders that wait, each with the
// number of its arrival, from which the first that is reached is looked for.
type model struct {
	book    *book.Book
	waiting map[int]api.Order
	arrived int
	left    int // how many were reached during a cascade, and waited on behind it
	turned  int // how many went behind one that arrived later
}

func newModel() *model { return &model{book: book.New(), waiting: map[int]api.Order{}} }

// turns are the numbers of those that wait, in their order.
func (m *model) turns() []int {
	var turns []int
	for turn := range m.waiting {
		turns = append(turns, turn)
	}
	slices.Sort(turns)
	return turns
}

func reached(o api.Order, last int) bool {
	return last > 0 && (o.Side == api.Buy && last >= o.Stop || o.Side == api.Sell && last <= o.Stop)
}

// next is the number of the first that is reached now, or 0.
func (m *model) next() int {
	for _, turn := range m.turns() {
		if reached(m.waiting[turn], m.book.Last()) {
			return turn
		}
	}
	return 0
}

func (m *model) enter(o api.Order) api.Outcome {
	out := m.book.Add(behind(0, o))
	out.Order = o
	return out
}

func (m *model) refusal(o api.Order) api.Errno {
	_, there := m.find(o.Trader, o.Id)
	switch full := m.book.Len()+len(m.waiting) >= api.MaxBook; {
	case order.Right(o) != api.OK:
		return api.ErrArg
	case there:
		return api.ErrThere
	case full && (o.Stop > 0 || o.Kind == api.Limit || o.Kind == api.Post):
		return api.ErrFull
	}
	return api.OK
}

func (m *model) Add(o api.Order) []api.Outcome {
	if err := m.refusal(o); err != api.OK {
		return []api.Outcome{fails(o, err)}
	}
	if o.Stop > 0 && !reached(o, m.book.Last()) {
		m.arrived++
		m.waiting[m.arrived] = o
		return []api.Outcome{waits(o)}
	}
	outs := []api.Outcome{m.enter(o)}
	were := map[int]bool{}
	for before := 0; m.next() > 0; {
		for _, turn := range m.turns() {
			were[turn] = were[turn] || reached(m.waiting[turn], m.book.Last())
		}
		turn := m.next()
		if turn < before {
			m.turned++
		}
		before = turn
		s := m.waiting[turn]
		delete(m.waiting, turn)
		outs = append(outs, m.enter(s))
	}
	for _, turn := range m.turns() {
		if were[turn] {
			m.left++
		}
	}
	return outs
}

func (m *model) find(trader, id int) (api.Order, bool) {
	for _, o := range m.all() {
		if o.Trader == trader && o.Id == id {
			return o, true
		}
	}
	return api.Order{}, false
}

func (m *model) remove(trader, id int) (api.Order, bool) {
	if o, ok := m.book.Remove(trader, id); ok {
		return o, true
	}
	for turn, o := range m.waiting {
		if o.Trader == trader && o.Id == id {
			delete(m.waiting, turn)
			return o, true
		}
	}
	return api.Order{}, false
}

func (m *model) wait() []api.Order {
	var orders []api.Order
	for _, turn := range m.turns() {
		orders = append(orders, m.waiting[turn])
	}
	return orders
}

func (m *model) all() []api.Order {
	return slices.Concat(m.book.Orders(api.Buy), m.book.Orders(api.Sell), m.wait())
}

func (m *model) picture() picture {
	b := m.book
	return picture{
		all: m.all(), waiting: m.wait(), buys: b.Orders(api.Buy), sells: b.Orders(api.Sell),
		bids: b.Depth(api.Buy), asks: b.Depth(api.Sell),
		len: b.Len() + len(m.waiting), resting: b.Len(), last: b.Last(), no: b.No(),
	}
}

// drawer is from where the orders of a run are drawn.
type drawer struct {
	buys, sells, spread int // the lowest prices, and how far they go
	firms, ids, most    int
	stops               int // of ten orders, so many have one
	far                 int // how far Stops go to either side of 50
}

func drawers() []drawer {
	return []drawer{
		{buys: 48, sells: 50, spread: 4, firms: 4, ids: 30, most: 9, stops: 4, far: 4},     // much trade
		{buys: 40, sells: 50, spread: 11, firms: 8, ids: 900, most: 4, stops: 5, far: 7},   // room for cascades
		{buys: 44, sells: 51, spread: 6, firms: 8, ids: 900, most: 3, stops: 7, far: 20},   // many that wait
		{buys: 46, sells: 46, spread: 9, firms: 2, ids: 400, most: 20, stops: 5, far: 5},   // much of one's own
		{buys: 30, sells: 50, spread: 22, firms: 8, ids: 5000, most: 4, stops: 8, far: 12}, // a market that fills up
	}
}

func (d drawer) draw(r *rand.Rand) api.Order {
	trader := r.Intn(2 * d.firms)
	o := api.Order{Trader: trader, Id: r.Intn(d.ids), Firm: trader % d.firms, Kind: []int{api.Limit, api.Limit, api.Limit, api.Post, api.Post, api.Market, api.IOC, api.FOK}[r.Intn(8)], Qty: 1 + r.Intn(d.most)}
	if o.Side = 1 + r.Intn(2); o.Side == api.Buy {
		o.Price = d.buys + r.Intn(d.spread)
	} else {
		o.Price = d.sells + r.Intn(d.spread)
	}
	if r.Intn(10) < d.stops {
		o.Stop = 50 - d.far + r.Intn(2*d.far+1)
		o.Price = o.Stop + r.Intn(7) - 3
	}
	if r.Intn(2) == 0 && (o.Kind == api.Limit || o.Kind == api.Post) {
		o.Show = r.Intn(o.Qty + 1)
	}
	if o.Kind == api.Market {
		o.Price = 0
	}
	if r.Intn(60) == 0 {
		*[]*int{&o.Price, &o.Qty, &o.Show, &o.Stop, &o.Trader}[r.Intn(5)] = r.Intn(3) - 1
	}
	return o
}

// drawn is the trader and the id of one of these orders, or mostly of none.
func drawn(r *rand.Rand, orders []api.Order) (int, int) {
	if n := len(orders); n > 0 && r.Intn(4) > 0 {
		o := orders[r.Intn(n)]
		return o.Trader, o.Id
	}
	return r.Intn(16), r.Intn(20)
}

// tally counts what the orders of many calls came to.
type tally struct {
	first, triggered                [api.ErrFill + 1]int
	waits, reached, chains, longest int
	selves, rest, parts             int
}

func (c *tally) count(outs []api.Outcome) {
	c.first[outs[0].Err]++
	if outs[0].Waits {
		c.waits++
	} else if outs[0].Order.Stop > 0 && outs[0].Err == api.OK {
		c.reached++
	}
	if len(outs) > 2 {
		c.chains++
	}
	c.longest = max(c.longest, len(outs))
	for _, out := range outs[1:] {
		c.triggered[out.Err]++
		if out.Self {
			c.selves++
		}
		if out.Rests {
			c.rest++
		}
		if out.Left > 0 && len(out.Fills) > 0 {
			c.parts++
		}
	}
}

// holdEnough holds that each thing that there is came often.
func (c *tally) holdEnough(t *testing.T) {
	t.Helper()
	for _, err := range []api.Errno{api.OK, api.ErrArg, api.ErrThere, api.ErrFull, api.ErrTake, api.ErrFill} {
		if c.first[err] < 100 {
			t.Errorf("error %d came %d times", err, c.first[err])
		}
	}
	for _, err := range []api.Errno{api.OK, api.ErrTake, api.ErrFill} {
		if c.triggered[err] < 50 {
			t.Errorf("error %d came %d times to one that was triggered", err, c.triggered[err])
		}
	}
	if c.waits < 1000 || c.reached < 500 || c.chains < 200 || c.longest < 10 || c.selves < 30 || c.rest < 200 || c.parts < 50 {
		t.Errorf("%+v", c)
	}
}

// call makes one drawn call of both, and counts what an Add came to.
func call(t *testing.T, r *rand.Rand, d drawer, m *stops.Market, k *model, c *tally) {
	t.Helper()
	switch trader, id := drawn(r, k.all()); r.Intn(12) {
	case 0, 1, 2:
		o, ok := k.remove(trader, id)
		holdRemove(t, m, trader, id, o, ok)
	case 3:
		o, ok := k.find(trader, id)
		holdFind(t, m, trader, id, o, ok)
	default:
		o := d.draw(r)
		want, got := k.Add(o), m.Add(o)
		if !slices.EqualFunc(got, want, sameOutcome) {
			t.Errorf("Add = %+v, not %+v", got, want)
		}
		c.count(want)
	}
}

// P11.1 to P11.5: many drawn calls against the model.
func TestManyCallsAgainstTheModel(t *testing.T) {
	r := rand.New(rand.NewSource(11))
	c, left, turned := tally{}, 0, 0
	for run := range 80 {
		d := drawers()[run%len(drawers())]
		m, k := stops.New(), newModel()
		for range 300 {
			call(t, r, d, m, k, &c)
			holdPicture(t, m, k.picture())
			holdQuiet(t, m)
			if t.Failed() {
				return
			}
		}
		left, turned = left+k.left, turned+k.turned
	}
	c.holdEnough(t)
	if left < 15 || turned < 25 {
		t.Errorf("%d were reached and left again, %d went behind one that arrived later", left, turned)
	}
}

// ledger is what arrived on each side, what of it was traded and what went, by
// the answers of the calls alone.
type ledger struct{ arrived, traded, gone [api.Sell + 1]int }

// outcomes books the answer to an Add of o.
func (l *ledger) outcomes(t *testing.T, o api.Order, outs []api.Outcome) {
	t.Helper()
	l.arrived[o.Side] += o.Qty
	if len(outs) == 0 || outs[0].Order != o {
		t.Errorf("%+v of %+v", outs, o)
		return
	}
	for i, out := range outs {
		rest := out.Order.Qty
		for _, f := range out.Fills {
			if f.Qty < 1 || f.Taker != behind(0, left(out.Order, rest)) || f.Maker.Side == f.Taker.Side || f.Maker.Firm == f.Taker.Firm {
				t.Errorf("%+v of %+v, of which %d are left", f, out.Order, rest)
			}
			rest -= f.Qty
			l.traded[f.Maker.Side] += f.Qty
			l.traded[f.Taker.Side] += f.Qty
		}
		if out.Left != rest || out.Waits && (i > 0 || len(outs) > 1) || i > 0 && out.Order.Stop < 1 {
			t.Errorf("%+v, of which %d are left", out, rest)
		}
		if !out.Rests && !out.Waits {
			l.gone[out.Order.Side] += out.Left
		}
	}
}

// holdSum holds that nothing is lost and nothing comes of itself.
func (l *ledger) holdSum(t *testing.T, m *stops.Market) {
	t.Helper()
	there := [api.Sell + 1]int{}
	for _, o := range m.All() {
		there[o.Side] += o.Qty
	}
	for _, side := range []int{api.Buy, api.Sell} {
		if l.arrived[side] != l.traded[side]+l.gone[side]+there[side] {
			t.Errorf("side %d: %+v, but %d are there", side, l, there[side])
		}
	}
	if l.traded[api.Buy] != l.traded[api.Sell] {
		t.Errorf("%+v", l)
	}
}

func TestQuantitiesAddUpAndNoneIsTriggered(t *testing.T) {
	r := rand.New(rand.NewSource(115))
	for run := range 50 {
		d := drawers()[run%len(drawers())]
		m, l := stops.New(), &ledger{}
		for range 300 {
			if all := m.All(); r.Intn(8) == 0 && len(all) > 0 {
				o := all[r.Intn(len(all))]
				got, _ := m.Remove(o.Trader, o.Id)
				l.gone[o.Side] += got.Qty
			} else {
				o := d.draw(r)
				l.outcomes(t, o, m.Add(o))
			}
			l.holdSum(t, m)
			holdQuiet(t, m)
			if m.Len() > api.MaxBook {
				t.Errorf("Len() = %d", m.Len())
			}
			if t.Failed() {
				return
			}
		}
		if l.traded[api.Buy] == 0 {
			t.Error("no trade")
		}
	}
}
