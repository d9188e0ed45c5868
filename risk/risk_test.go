package risk_test

import (
	"math"
	"testing"

	"jobber/acct"
	"jobber/api"
	"jobber/risk"
)

// The limits are written out in these tests, so that they are not held against
// themselves: there are 32 traders of 8 firms and 8 instruments, a quantity and
// a price are up to 1 << 20, an Id up to 1 << 30, and an open quantity or a
// position up to 1 << 40.

const (
	mostQty   = 1 << 20
	mostPrice = 1 << 20
	mostId    = 1 << 30
	mostTick  = 1 << 40
)

func kinds() []int { return []int{api.Limit, api.Market, api.IOC, api.FOK, api.Post} }

func sides() []int { return []int{api.Buy, api.Sell} }

// far holds numbers that are far off, at both ends, and some whose lowest bits
// are those of small ones.
func far() []int {
	all := []int{math.MinInt, math.MinInt + 1, math.MaxInt - 1, math.MaxInt}
	for _, n := range []int{0, 1, 5, 7} {
		for _, step := range []int{1 << 31, 1 << 32, 1 << 44, 1 << 62} {
			all = append(all, n+step, n-step)
		}
		all = append(all, math.MinInt+n, math.MaxInt-n)
	}
	return all
}

// widest holds the widest limits that are valid.
func widest() api.Limits {
	return api.Limits{Qty: mostQty, Value: math.MaxInt, Open: mostTick, Pos: mostTick}
}

// unbounded holds limits that nothing exceeds, valid or not.
func unbounded() api.Limits {
	return api.Limits{Qty: math.MaxInt, Value: math.MaxInt, Open: math.MaxInt, Pos: math.MaxInt}
}

// all holds limits that are this in each field.
func all(n int) api.Limits { return api.Limits{Qty: n, Value: n, Open: n, Pos: n} }

// limit is one field of the limits.
type limit struct {
	name string
	of   func(l *api.Limits) *int
	most int
}

func limits() []limit {
	return []limit{
		{"Qty", func(l *api.Limits) *int { return &l.Qty }, mostQty},
		{"Value", func(l *api.Limits) *int { return &l.Value }, math.MaxInt},
		{"Open", func(l *api.Limits) *int { return &l.Open }, mostTick},
		{"Pos", func(l *api.Limits) *int { return &l.Pos }, mostTick},
	}
}

// priced holds a valid order of trader 5 without anything that it need not have.
func priced(kind, side, price, qty int) api.Order {
	if kind == api.Market {
		price = 0
	}
	return api.Order{Trader: 5, Id: 700, Firm: 3, Side: side, Kind: kind, Price: price, Qty: qty}
}

func buy(price, qty int) api.Order { return priced(api.Limit, api.Buy, price, qty) }

func sell(price, qty int) api.Order { return priced(api.Limit, api.Sell, price, qty) }

func holdCheck(t *testing.T, a *acct.Accts, l api.Limits, o api.Order, inst int, want api.Errno) {
	t.Helper()
	if got := risk.Check(a, l, o, inst); got != want {
		t.Errorf("Check(%+v, %+v, %d) = %d, not %d", l, o, inst, got, want)
	}
}

// opened adds to an open quantity in as few steps as may be.
func opened(t *testing.T, a *acct.Accts, n, inst, by int) {
	t.Helper()
	for ; by > mostQty; by -= mostQty {
		if !a.Opens(n, inst, mostQty) {
			t.Fatalf("Opens(%d, %d, %d) is refused", n, inst, mostQty)
		}
	}
	if !a.Opens(n, inst, by) {
		t.Fatalf("Opens(%d, %d, %d) is refused", n, inst, by)
	}
}

// traded moves a position, up or down, in as few steps as may be.
func traded(t *testing.T, a *acct.Accts, n, inst, by int) {
	t.Helper()
	side := api.Buy
	if by < 0 {
		side, by = api.Sell, -by
	}
	for by > 0 {
		qty := min(by, mostQty)
		if !a.Trades(n, inst, side, qty) {
			t.Fatalf("Trades(%d, %d, %d, %d) is refused", n, inst, side, qty)
		}
		by -= qty
	}
}

// picture is all that accounts answer.
type picture struct {
	sum       [32]int
	open, pos [32][8]int
}

func pictureOf(a *acct.Accts) picture {
	var p picture
	for n := range 32 {
		p.sum[n] = a.Open(n)
		for inst := range 8 {
			p.open[n][inst], p.pos[n][inst] = a.OpenAt(n, inst), a.Pos(n, inst)
		}
	}
	return p
}

func TestTheLimits(t *testing.T) {
	if api.MaxTrader != 32 || api.MaxInst != 8 || api.MaxFirms != 8 || api.MaxQty != mostQty ||
		api.MaxPrice != mostPrice || api.MaxId != mostId || api.MaxTick != mostTick {
		t.Error("the limits are others than these tests say")
	}
}

func TestTheChaptersExample(t *testing.T) {
	l := api.Limits{Qty: 5, Value: 50, Open: 8, Pos: 6}
	a := acct.New()
	holdCheck(t, a, l, buy(10, 5), 0, api.OK)
	holdCheck(t, a, l, buy(11, 5), 0, api.ErrLimit)
	holdCheck(t, a, l, buy(1, 6), 0, api.ErrLimit)
}
