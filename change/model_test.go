package change_test

import (
	"math/rand"
	"slices"
	"testing"

	"jobber/api"
	"jobber/change"
	"jobber/stops"
)

// drawer is from where the orders of a run are drawn.
type drawer struct {
	buys, sells, spread int // the lowest prices, and how far they go
	firms, ids, most    int
	stops               int // of ten orders, so many have one
	far                 int // how far Stops go to either side of 50
}

func drawers() []drawer {
	return []drawer{
		{buys: 48, sells: 50, spread: 4, firms: 4, ids: 30, most: 9, stops: 4, far: 4},     // much trade
		{buys: 40, sells: 50, spread: 11, firms: 8, ids: 900, most: 4, stops: 5, far: 7},   // room for cascades
		{buys: 44, sells: 51, spread: 6, firms: 8, ids: 900, most: 3, stops: 7, far: 20},   // many that wait
		{buys: 46, sells: 46, spread: 9, firms: 2, ids: 400, most: 20, stops: 5, far: 5},   // much of one's own
		{buys: 30, sells: 50, spread: 22, firms: 8, ids: 5000, most: 9, stops: 8, far: 12}, // a market that fills up
	}
}

func (d drawer) draw(r *rand.Rand) api.Order {
	trader := r.Intn(2 * d.firms)
	o := api.Order{Trader: trader, Id: r.Intn(d.ids), Firm: trader % d.firms, Kind: []int{api.Limit, api.Limit, api.Limit, api.Post, api.Post, api.Market, api.IOC, api.FOK}[r.Intn(8)], Qty: 1 + r.Intn(d.most)}
	if o.Side = 1 + r.Intn(2); o.Side == api.Buy {
		o.Price = d.buys + r.Intn(d.spread)
	} else {
		o.Price = d.sells + r.Intn(d.spread)
	}
	if r.Intn(10) < d.stops {
		o.Stop = 50 - d.far + r.Intn(2*d.far+1)
		o.Price = o.Stop + r.Intn(7) - 3
	}
	if r.Intn(2) == 0 && (o.Kind == api.Limit || o.Kind == api.Post) {
		o.Show = r.Intn(o.Qty + 1)
	}
	if o.Kind == api.Market {
		o.Price = 0
	}
	return o
}

// drawn is one of the orders of a market, mostly one that rests, or now and
// then one that is none of them.
func drawn(r *rand.Rand, m *stops.Market) api.Order {
	if n := r.Intn(m.Len() + 1); n < m.Len() && r.Intn(12) > 0 {
		if resting := m.Book().Len(); resting > 0 && r.Intn(4) > 0 {
			n %= resting
		}
		return m.All()[n]
	}
	return api.Order{Trader: r.Intn(16), Id: r.Intn(900), Price: 50, Qty: 5}
}

// drawnChange is a price and a quantity to which o is to be changed: near what
// the others stand at, or now and then what may not be.
func drawnChange(r *rand.Rand, o api.Order) (price, qty int) {
	price, qty = o.Price, o.Qty+r.Intn(9)-4
	if o.Kind != api.Market && r.Intn(2) == 0 {
		price = 46 + r.Intn(9)
	}
	if r.Intn(40) == 0 {
		price = r.Intn(2) * (api.MaxPrice + 1)
	}
	if r.Intn(40) == 0 {
		qty = r.Intn(2) * (api.MaxQty + 1)
	}
	return price, qty
}

// tally counts what the amends and masses of many calls came to.
type tally struct {
	refused                           [api.ErrNone + 1]int
	kept, moved, waits                int
	traded, triggered, selves, failed int
	masses, went                      int
}

func (c *tally) count(outs []api.Outcome) {
	first := outs[0]
	switch {
	case first.Err != api.OK:
		c.failed++
	case first.Waits:
		c.waits++
	default:
		c.moved++
	}
	if first.Self {
		c.selves++
	}
	if len(first.Fills) > 0 {
		c.traded++
	}
	if len(outs) > 1 {
		c.triggered++
	}
}

func (c *tally) holdEnough(t *testing.T) {
	t.Helper()
	often := min(c.refused[api.ErrNone], c.refused[api.ErrArg], c.kept, c.moved, c.waits, c.traded, c.failed, c.masses, c.went)
	if often < 100 || min(c.triggered, c.selves) < 50 {
		t.Errorf("%+v", c)
	}
}

// pair is a market that is called as a whole, and one that is brought to the
// same by the calls of package stops alone, as P12.1 to P12.3 say it.
type pair struct {
	m, like *stops.Market
	tally   *tally
}

func (p pair) add(t *testing.T, o api.Order) {
	t.Helper()
	holdOutcomes(t, p.m.Add(o), p.like.Add(o)...)
}

func (p pair) amend(t *testing.T, o api.Order, price, qty int) {
	t.Helper()
	want := p.wanted(o, price, qty)
	got, err := change.Amend(p.m, o.Trader, o.Id, price, qty)
	if err != want {
		t.Errorf("Amend of %+v to %d, %d: error %d, not %d", o, price, qty, err, want)
	}
	if want != api.OK {
		p.tally.refused[want]++
		holdOutcomes(t, got)
		return
	}
	o, _ = p.like.Find(o.Trader, o.Id)
	if !slices.Contains(p.like.Waiting(), o) && price == o.Price && qty <= o.Qty {
		p.tally.kept++
		p.like.Book().Less(o.Trader, o.Id, qty)
		holdOutcomes(t, got)
		return
	}
	p.like.Remove(o.Trader, o.Id)
	o.Price, o.Qty, o.Show = price, qty, min(o.Show, qty)
	outs := p.like.Add(o)
	p.tally.count(outs)
	holdOutcomes(t, got, outs...)
}

// wanted is the error of an amend.
func (p pair) wanted(o api.Order, price, qty int) api.Errno {
	there, ok := p.like.Find(o.Trader, o.Id)
	if !ok {
		return api.ErrNone
	}
	if !mayBe(there.Kind, price, qty) {
		return api.ErrArg
	}
	return api.OK
}

func (p pair) mass(t *testing.T, traders []int) {
	t.Helper()
	in, _ := split(p.like.All(), traders)
	for _, o := range in {
		p.like.Remove(o.Trader, o.Id)
	}
	p.tally.masses++
	p.tally.went += len(in)
	holdMass(t, p.m, setOf(traders), in...)
}

// holdOpens holds that what is open of all traders is all that there is.
func (p pair) holdOpens(t *testing.T) {
	t.Helper()
	var each [api.MaxTrader]int
	whole, sum := 0, 0
	for _, o := range p.m.All() {
		each[o.Trader] += o.Qty
		whole += o.Qty
	}
	for n, open := range each {
		got := change.Open(p.m, n)
		if got != open {
			t.Errorf("Open(%d) = %d, not %d", n, got, open)
		}
		sum += got
	}
	if sum != whole {
		t.Errorf("%d are open, but there are %d", sum, whole)
	}
}

// call makes one drawn call.
func (p pair) call(t *testing.T, r *rand.Rand, d drawer) {
	t.Helper()
	switch n := r.Intn(60); {
	case n == 0:
		var traders []int
		for range r.Intn(4) {
			if n := r.Intn(34); !slices.Contains(traders, n) {
				traders = append(traders, n)
			}
		}
		p.mass(t, traders)
	case n < 25:
		p.add(t, d.draw(r))
	default:
		o := drawn(r, p.like)
		price, qty := drawnChange(r, o)
		p.amend(t, o, price, qty)
	}
}

// P12.1 to P12.4: many drawn calls.
func TestManyCalls(t *testing.T) {
	r := rand.New(rand.NewSource(12))
	c := tally{}
	for run := range 75 {
		d := drawers()[run%len(drawers())]
		p := pair{m: stops.New(), like: stops.New(), tally: &c}
		for range 200 {
			p.call(t, r, d)
			holdPicture(t, p.m, pictureOf(p.like))
			holdQuiet(t, p.m)
			p.holdOpens(t)
			if t.Failed() {
				return
			}
		}
	}
	c.holdEnough(t)
}
