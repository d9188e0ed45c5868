package risk_test

import (
	"math"
	"testing"

	"jobber/acct"
	"jobber/api"
	"jobber/order"
	"jobber/risk"
)

// P16.2: ErrArg, and that it comes first.

// bounds holds limits that nothing exceeds and limits that everything does.
func bounds() []api.Limits {
	return []api.Limits{unbounded(), widest(), {}, all(-1), all(math.MinInt)}
}

// field is one number of an order, and what it can't be.
type field struct {
	name string
	of   func(o *api.Order) *int
	not  []int
}

// fields tells them for an order of priced.
func fields(o api.Order) []field {
	price := []int{-1, 0, mostPrice + 1}
	if o.Kind == api.Market {
		price = []int{-1, 1, mostPrice}
	}
	show := []int{-1, 1, o.Qty}
	if o.Kind == api.Limit || o.Kind == api.Post {
		show = []int{-1, o.Qty + 1, mostQty + 1}
	}
	return []field{
		{"Trader", func(o *api.Order) *int { return &o.Trader }, []int{-1, 32}},
		{"Firm", func(o *api.Order) *int { return &o.Firm }, []int{-1, 8}},
		{"Id", func(o *api.Order) *int { return &o.Id }, []int{-1, mostId + 1}},
		{"Side", func(o *api.Order) *int { return &o.Side }, []int{-1, 0, 3}},
		{"Kind", func(o *api.Order) *int { return &o.Kind }, []int{-1, 0, 6}},
		{"Price", func(o *api.Order) *int { return &o.Price }, price},
		{"Qty", func(o *api.Order) *int { return &o.Qty }, []int{-1, 0, mostQty + 1}},
		{"Show", func(o *api.Order) *int { return &o.Show }, show},
		{"Stop", func(o *api.Order) *int { return &o.Stop }, []int{-1, mostPrice + 1}},
	}
}

func holdArg(t *testing.T, a *acct.Accts, o api.Order, inst int) {
	t.Helper()
	for _, l := range bounds() {
		holdCheck(t, a, l, o, inst, api.ErrArg)
	}
}

// eachOrder calls f with a valid order of each kind and side.
func eachOrder(f func(o api.Order)) {
	for _, kind := range kinds() {
		for _, side := range sides() {
			f(priced(kind, side, 40, 30))
		}
	}
}

func TestOrdersThatAreNotValid(t *testing.T) {
	a := acct.New()
	opened(t, a, 5, 2, 1000)
	eachOrder(func(o api.Order) {
		holdCheck(t, a, unbounded(), o, 2, api.OK)
		holdCheck(t, a, api.Limits{}, o, 2, api.ErrLimit)
		for _, f := range fields(o) {
			for _, n := range append(far(), f.not...) {
				wrong := o
				*f.of(&wrong) = n
				for _, inst := range []int{0, 2, 7} {
					holdArg(t, a, wrong, inst)
				}
			}
		}
	})
}

func TestInstrumentsThatAreNot(t *testing.T) {
	a := acct.New()
	for inst := range 8 {
		opened(t, a, 5, inst, 1000)
	}
	eachOrder(func(o api.Order) {
		for _, inst := range append(far(), -1, 8, -2, 9, 15, 16, 255, 256) {
			holdArg(t, a, o, inst)
			holdArg(t, a, api.Order{}, inst)
		}
		for _, inst := range []int{0, 1, 6, 7} {
			holdCheck(t, a, unbounded(), o, inst, api.OK)
			holdCheck(t, a, widest(), o, inst, api.OK)
			holdCheck(t, a, api.Limits{}, o, inst, api.ErrLimit)
			holdCheck(t, a, all(math.MinInt), o, inst, api.ErrLimit)
		}
	})
}

// Check goes by order.Right, so no order without a Value gets as far as the
// limits.
func TestOrdersWithoutAValue(t *testing.T) {
	a := acct.New()
	for _, pair := range [][2]int{
		{-1, 1}, {1, -1}, {-1, -1}, {0, -1}, {math.MaxInt, 2}, {2, math.MaxInt}, {1 << 32, 1 << 32},
		{math.MinInt, 1}, {1, math.MinInt}, {math.MinInt, math.MinInt}, {math.MaxInt, math.MaxInt},
	} {
		eachOrder(func(o api.Order) {
			o.Price, o.Qty = pair[0], pair[1]
			if _, err := order.Value(o); err == api.OK {
				t.Error("there is a value of", pair)
			}
			holdArg(t, a, o, 0)
		})
	}
}

func TestAMarketsValueIsNothing(t *testing.T) {
	a := acct.New()
	for _, side := range sides() {
		for _, qty := range []int{1, 5, mostQty} {
			o := priced(api.Market, side, 0, qty)
			l := unbounded()
			l.Value = 0
			holdCheck(t, a, l, o, 0, api.OK)
			l.Value = -1
			holdCheck(t, a, l, o, 0, api.ErrLimit)
		}
	}
}

// What Check refuses is what order.Right refuses, and nothing else is ErrArg.
func TestArgumentsGoByOrderRight(t *testing.T) {
	a := acct.New()
	for _, kind := range []int{0, 1, 2, 3, 4, 5, 6} {
		for _, side := range []int{0, 1, 2, 3} {
			for _, price := range []int{0, 1, mostPrice, mostPrice + 1} {
				for _, show := range []int{-1, 0, 1, 9, 10} {
					o := api.Order{Trader: 5, Side: side, Kind: kind, Price: price, Qty: 9, Show: show}
					if got := risk.Check(a, unbounded(), o, 3); got != order.Right(o) {
						t.Errorf("Check of %+v is %d", o, got)
					}
				}
			}
		}
	}
}
