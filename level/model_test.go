package level_test

import (
	"math"
	"math/rand"
	"slices"
	"testing"

	"jobber/api"
	"jobber/level"
)

// A model of a level that knows single units alone: an order is a row of
// units, cut into parts, and one unit is taken at a time.
type model struct{ rows []row }

type row struct {
	order api.Order
	units int   // in all
	parts []int // what is visible, and what comes behind it
}

// cut cuts units into the parts that are shown one after the other.
func cut(units, show int) []int {
	if show <= 0 {
		return []int{units}
	}
	var parts []int
	for ; units > show; units -= show {
		parts = append(parts, show)
	}
	return append(parts, units)
}

func (m *model) add(o api.Order) {
	m.rows = append(m.rows, row{order: o, units: o.Qty, parts: cut(o.Qty, o.Show)})
}

// stands is the order with what is left of it.
func (r row) stands() api.Order { return left(r.order, r.units) }

func (m *model) take(firm, qty int) ([]api.Hit, bool) {
	var hits []api.Hit
	within := false // the last Hit is of the part that stands first
	for ; qty > 0 && len(m.rows) > 0; qty-- {
		r := &m.rows[0]
		if r.order.Firm == firm {
			return hits, true
		}
		if !within {
			hits = append(hits, hit(r.stands(), 0))
		}
		hits[len(hits)-1].Qty++
		r.units--
		r.parts[0]--
		within = r.parts[0] > 0
		if !within {
			m.next()
		}
	}
	return hits, false
}

// next is for a part that is gone: the order comes last, or goes too.
func (m *model) next() {
	r := m.rows[0]
	m.rows = slices.Clone(m.rows[1:])
	if r.parts = r.parts[1:]; len(r.parts) > 0 {
		m.rows = append(m.rows, r)
	}
}

func (m *model) find(trader, id int) int {
	for i, r := range m.rows {
		if r.order.Trader == trader && r.order.Id == id {
			return i
		}
	}
	return -1
}

func (m *model) remove(trader, id int) (api.Order, bool) {
	i := m.find(trader, id)
	if i < 0 {
		return api.Order{}, false
	}
	o := m.rows[i].stands()
	m.rows = slices.Concat(m.rows[:i], m.rows[i+1:])
	return o, true
}

// less keeps the first part as far as there are units, and cuts the others
// anew.
func (m *model) less(trader, id, qty int) bool {
	i := m.find(trader, id)
	if i < 0 || qty <= 0 || m.rows[i].units < qty {
		return false
	}
	r := &m.rows[i]
	first := r.parts[0]
	if r.units = qty; first >= qty {
		r.parts = []int{qty}
	} else {
		r.parts = append([]int{first}, cut(qty-first, r.order.Show)...)
	}
	return true
}

func (m *model) orders() []api.Order {
	var orders []api.Order
	for _, r := range m.rows {
		orders = append(orders, r.stands())
	}
	return orders
}

func (m *model) seen() int {
	n := 0
	for _, r := range m.rows {
		n += r.parts[0]
	}
	return n
}

func (m *model) whole() int {
	n := 0
	for _, r := range m.rows {
		for _, p := range r.parts {
			n += p
		}
	}
	return n
}

func draw(r *rand.Rand, id int) api.Order {
	o := api.Order{Trader: r.Intn(4), Id: id, Firm: r.Intn(4), Side: 1 + r.Intn(2), Kind: api.Limit, Price: 7, Qty: 1 + r.Intn(12)}
	if r.Intn(2) == 0 {
		o.Kind = api.Post
	}
	if r.Intn(3) > 0 {
		o.Show = r.Intn(o.Qty + 1)
	}
	return o
}

// draws of what is asked for: mostly small, now and then strange.
func drawQty(r *rand.Rand) int {
	switch r.Intn(12) {
	case 0:
		return math.MaxInt
	case 1:
		return math.MinInt
	}
	return r.Intn(22) - 2
}

// P9.1 to P9.5: many drawn calls against the model.
func TestManyCallsAgainstTheModel(t *testing.T) {
	r := rand.New(rand.NewSource(9))
	for range 3000 {
		l, m := level.New(7), &model{}
		for id := 0; id < 40 && !t.Failed(); id++ {
			switch r.Intn(6) {
			case 0, 1:
				o := draw(r, id)
				l.Add(o)
				m.add(o)
			case 2, 3:
				firm, qty := r.Intn(6), drawQty(r)
				hits, own := m.take(firm, qty)
				holdTake(t, l, firm, qty, own, hits...)
			case 4:
				trader, which := r.Intn(4), r.Intn(id+1)
				o, ok := m.remove(trader, which)
				holdRemove(t, l, trader, which, o, ok)
			default:
				trader, which, qty := r.Intn(4), r.Intn(id+1), drawQty(r)
				holdLess(t, l, trader, which, qty, m.less(trader, which, qty))
			}
			holdLevel(t, l, m.seen(), m.whole(), m.orders()...)
		}
	}
}

// P9.6.

func quantity(hits []api.Hit) int {
	n := 0
	for _, h := range hits {
		n += h.Qty
	}
	return n
}

// What the Hits say is what is missing, of the whole and of each order, and it
// is no more than was asked for.
func TestWhatTakeReturnsIsMissing(t *testing.T) {
	r := rand.New(rand.NewSource(96))
	for range 20000 {
		l := level.New(7)
		for id := range r.Intn(8) {
			l.Add(draw(r, id))
		}
		for range 4 {
			firm, qty := r.Intn(6), drawQty(r)
			before, whole := l.Orders(), l.Whole()
			hits, own := l.Take(firm, qty)
			got := quantity(hits)
			if got != whole-l.Whole() || got > max(qty, 0) {
				t.Fatalf("Take(%d, %d) = %+v; Whole %d, then %d", firm, qty, hits, whole, l.Whole())
			}
			if !own && got != min(max(qty, 0), whole) {
				t.Fatalf("Take(%d, %d) = %+v, not stopped, of %+v", firm, qty, hits, before)
			}
			holdMissing(t, before, l.Orders(), hits)
		}
	}
}

// holdMissing holds the Hits of each order against what is left of it.
func holdMissing(t *testing.T, before, after []api.Order, hits []api.Hit) {
	t.Helper()
	for _, o := range before {
		rest := o.Qty
		for _, h := range hits {
			if h.Maker.Trader == o.Trader && h.Maker.Id == o.Id {
				if h.Qty < 1 || h.Maker != left(o, rest) {
					t.Fatalf("Hit %+v of %+v, of which %d are left", h, o, rest)
				}
				rest -= h.Qty
			}
		}
		i := slices.IndexFunc(after, func(a api.Order) bool { return a.Trader == o.Trader && a.Id == o.Id })
		if (rest == 0) != (i < 0) || i >= 0 && after[i] != left(o, rest) {
			t.Fatalf("%+v: %d are left; behind it %+v", o, rest, after)
		}
	}
}

// An order with priority trades its visible quantity first: nobody behind it
// trades as long as some of it is to be seen.
func TestPriorityOfWhatIsVisible(t *testing.T) {
	r := rand.New(rand.NewSource(69))
	for range 5000 {
		l := level.New(7)
		n := 1 + r.Intn(8)
		for id := range n {
			l.Add(draw(r, id))
		}
		orders, seen := l.Orders(), l.Seen()
		hits, own := l.Take(-1, seen)
		if own || len(hits) != n || quantity(hits) != seen {
			t.Fatalf("Take(-1, %d) = %+v, %v, of %+v", seen, hits, own, orders)
		}
		for i, o := range orders {
			visible := o.Qty
			if o.Show > 0 {
				visible = o.Show
			}
			if hits[i] != hit(o, visible) {
				t.Fatalf("Hit %d of %+v is %+v", i, orders, hits[i])
			}
		}
	}
}

// Taken at once or in pieces, the level comes to the same.
func TestTakeInPieces(t *testing.T) {
	r := rand.New(rand.NewSource(99))
	for range 5000 {
		once, pieces := level.New(7), level.New(7)
		for id := range r.Intn(8) {
			o := draw(r, id)
			once.Add(o)
			pieces.Add(o)
		}
		firm, sum := r.Intn(6), 0
		for range 5 {
			qty := r.Intn(6)
			sum += qty
			pieces.Take(firm, qty)
		}
		once.Take(firm, sum)
		holdLevel(t, pieces, once.Seen(), once.Whole(), once.Orders()...)
		if t.Failed() {
			return
		}
	}
}
