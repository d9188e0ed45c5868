package order_test

import (
	"math"
	"math/rand"
	"testing"

	"jobber/api"
	"jobber/order"
)

// P8.1. The limits are written out here, so that they are not held against
// themselves.

func kinds() []int { return []int{api.Limit, api.Market, api.IOC, api.FOK, api.Post} }

func sides() []int { return []int{api.Buy, api.Sell} }

func errnoOf(ok bool) api.Errno {
	if ok {
		return api.OK
	}
	return api.ErrArg
}

func holdRight(t *testing.T, o api.Order, ok bool) {
	t.Helper()
	if got := order.Right(o); got != errnoOf(ok) {
		t.Errorf("Right(%+v) = %d, want %d", o, got, errnoOf(ok))
	}
}

// bases holds valid orders of this kind and side: an ordinary one, one with
// the least number in each field, and one with the greatest.
func bases(kind, side int) []api.Order {
	ordinary := api.Order{Trader: 5, Id: 700, Firm: 3, Side: side, Kind: kind, Price: 40, Qty: 30, Stop: 20}
	least := api.Order{Side: side, Kind: kind, Price: 1, Qty: 1}
	greatest := api.Order{Trader: 31, Id: 1 << 30, Firm: 7, Side: side, Kind: kind,
		Price: 1 << 20, Qty: 1 << 20, Stop: 1 << 20}
	if kind == api.Market {
		ordinary.Price, least.Price, greatest.Price = 0, 0, 0
	}
	if kind == api.Limit || kind == api.Post {
		ordinary.Show, greatest.Show = 10, 1<<20
	}
	return []api.Order{ordinary, least, greatest}
}

func eachBase(f func(o api.Order)) {
	for _, kind := range kinds() {
		for _, side := range sides() {
			for _, o := range bases(kind, side) {
				f(o)
			}
		}
	}
}

// field is one number of an order, and from where to where it may be while
// the other numbers stay as they are.
type field struct {
	name        string
	of          func(o *api.Order) *int
	least, most int
}

// fields tells them for a valid order.
func fields(o api.Order) []field {
	price := field{"Price", func(o *api.Order) *int { return &o.Price }, 1, 1 << 20}
	if o.Kind == api.Market {
		price.least, price.most = 0, 0
	}
	show := field{"Show", func(o *api.Order) *int { return &o.Show }, 0, 0}
	if o.Kind == api.Limit || o.Kind == api.Post {
		show.most = o.Qty
	}
	return []field{
		{"Trader", func(o *api.Order) *int { return &o.Trader }, 0, 31},
		{"Firm", func(o *api.Order) *int { return &o.Firm }, 0, 7},
		{"Id", func(o *api.Order) *int { return &o.Id }, 0, 1 << 30},
		{"Side", func(o *api.Order) *int { return &o.Side }, 1, 2},
		{"Qty", func(o *api.Order) *int { return &o.Qty }, max(1, o.Show), 1 << 20},
		{"Stop", func(o *api.Order) *int { return &o.Stop }, 0, 1 << 20},
		price,
		show,
	}
}

func TestRightOfValidOrders(t *testing.T) {
	eachBase(func(o api.Order) { holdRight(t, o, true) })
}

func TestRightOfAZeroOrder(t *testing.T) {
	holdRight(t, api.Order{}, false)
}

func TestRightAtTheEndsOfEachField(t *testing.T) {
	eachBase(func(base api.Order) {
		for _, f := range fields(base) {
			for _, n := range []int{f.least - 1, f.least, f.least + 1, f.most - 1, f.most, f.most + 1} {
				o := base
				*f.of(&o) = n
				holdRight(t, o, f.least <= n && n <= f.most)
			}
		}
	})
}

func TestRightOfNumbersFarBeyond(t *testing.T) {
	far := []int{math.MinInt, math.MinInt + 1, math.MinInt32, -1 << 20, -2, -1,
		1<<30 + 2, 1 << 31, 1 << 32, 1<<32 + 1, 1<<32 + 2, math.MaxInt - 1, math.MaxInt}
	eachBase(func(base api.Order) {
		for _, n := range far {
			for _, f := range fields(base) {
				o := base
				*f.of(&o) = n
				holdRight(t, o, false)
			}
			o := base
			o.Kind = n
			holdRight(t, o, false)
		}
	})
}

// The order would be right with either price, if it had a kind.
func TestRightOfKindsThatAreNotOfApi(t *testing.T) {
	eachBase(func(o api.Order) {
		for _, kind := range []int{-6, -1, 0, 6, 7, 255, 256 + api.Limit} {
			for _, price := range []int{0, 1, 40} {
				for _, show := range []int{0, 1} {
					o.Kind, o.Price, o.Show = kind, price, show
					holdRight(t, o, false)
				}
			}
		}
	})
}

func TestRightOfSidesThatAreNotOfApi(t *testing.T) {
	eachBase(func(o api.Order) {
		for _, side := range []int{-2, -1, 0, 3, 4, 255, 256 + api.Buy} {
			o.Side = side
			holdRight(t, o, false)
		}
	})
}

func TestRightAsksForAPriceUnlessAMarket(t *testing.T) {
	eachBase(func(o api.Order) {
		for _, price := range []int{0, 1, 2, 40, 1<<20 - 1, 1 << 20} {
			o.Price = price
			holdRight(t, o, (price == 0) == (o.Kind == api.Market))
		}
		for _, price := range []int{-1, 1<<20 + 1} {
			o.Price = price
			holdRight(t, o, false)
		}
	})
}

func TestRightOfEachShow(t *testing.T) {
	eachBase(func(o api.Order) {
		shows := o.Kind == api.Limit || o.Kind == api.Post
		for _, qty := range []int{1, 2, 3, 30, 1<<20 - 1, 1 << 20} {
			o.Qty = qty
			for _, show := range []int{-1, 0, 1, qty - 1, qty, qty + 1} {
				o.Show = show
				holdRight(t, o, show == 0 || shows && 1 <= show && show <= qty)
			}
		}
	})
}

// A Show of as much as a Qty that can't be is still refused.
func TestRightOfAShowWithAWrongQty(t *testing.T) {
	eachBase(func(o api.Order) {
		for _, qty := range []int{math.MinInt, -1, 0, 1<<20 + 1, math.MaxInt} {
			for _, show := range []int{0, 1, qty, qty - 1} {
				o.Qty, o.Show = qty, show
				holdRight(t, o, false)
			}
		}
	})
}

func TestRightOfAStopWithEachKind(t *testing.T) {
	eachBase(func(o api.Order) {
		for _, stop := range []int{0, 1, 2, 39, 40, 41, 1<<20 - 1, 1 << 20} {
			o.Stop = stop
			holdRight(t, o, true)
		}
		for _, stop := range []int{-1, 1<<20 + 1} {
			o.Stop = stop
			holdRight(t, o, false)
		}
	})
}

// One fault does not make good for another.
func TestRightOfTwoFaults(t *testing.T) {
	eachBase(func(base api.Order) {
		l := fields(base)
		for i, f := range l {
			for _, g := range l[:i] {
				for _, n := range []int{f.least - 1, f.most + 1} {
					for _, m := range []int{g.least - 1, g.most + 1} {
						o := base
						*f.of(&o), *g.of(&o) = n, m
						holdRight(t, o, false)
					}
				}
			}
		}
	})
}

// valid is P8.1 word by word.
func valid(o api.Order) bool {
	priced, shown := o.Price >= 1 && o.Price <= 1<<20, o.Show >= 0 && o.Show <= o.Qty
	switch o.Kind {
	case 1, 5:
	case 2:
		priced, shown = o.Price == 0, o.Show == 0
	case 3, 4:
		shown = o.Show == 0
	default:
		return false
	}
	return priced && shown && (o.Side == 1 || o.Side == 2) &&
		o.Trader >= 0 && o.Trader < 32 && o.Firm >= 0 && o.Firm < 8 &&
		o.Id >= 0 && o.Id <= 1<<30 && o.Qty >= 1 && o.Qty <= 1<<20 &&
		o.Stop >= 0 && o.Stop <= 1<<20
}

// drawn is an order of which each number is seldom wrong, so that about half
// of the orders are valid.
func drawn(r *rand.Rand) api.Order {
	number := func(least, most int) int {
		switch r.Intn(30) {
		case 0:
			return least - 1
		case 1:
			return most + 1
		case 2, 3:
			return least
		case 4, 5:
			return most
		default:
			return least + r.Intn(most-least+1)
		}
	}
	o := api.Order{Trader: number(0, 31), Id: number(0, 1<<30), Firm: number(0, 7),
		Side: number(1, 2), Kind: number(1, 5), Price: number(1, 1<<20),
		Qty: number(1, 1<<20), Stop: number(0, 1<<20)}
	if o.Kind == api.Market && r.Intn(10) > 0 {
		o.Price = 0
	}
	if o.Qty > 0 && r.Intn(3) == 0 {
		o.Show = number(0, o.Qty)
	}
	return o
}

func TestRightOfManyOrders(t *testing.T) {
	r := rand.New(rand.NewSource(8))
	count := map[bool]int{}
	for range 200_000 {
		o := drawn(r)
		count[valid(o)]++
		holdRight(t, o, valid(o))
	}
	if count[true] < 20_000 || count[false] < 20_000 {
		t.Errorf("too few orders of one sort were drawn: %v", count)
	}
}
