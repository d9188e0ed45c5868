package risk_test

import (
	"math"
	"math/big"
	"math/rand"
	"testing"

	"jobber/acct"
	"jobber/api"
	"jobber/order"
	"jobber/risk"
)

// P16.2 on drawn accounts, limits and orders, and P16.3.

func exact(n int) *big.Int { return big.NewInt(int64(n)) }

// sum adds up without a bound.
func sum(terms ...*big.Int) *big.Int {
	s := new(big.Int)
	for _, n := range terms {
		s.Add(s, n)
	}
	return s
}

func opposite(n *big.Int) *big.Int { return new(big.Int).Neg(n) }

func isGreater(a, b *big.Int) bool { return a.Cmp(b) > 0 }

// wordByWord is P16.2, on numbers of unlimited size.
func wordByWord(a *acct.Accts, l api.Limits, o api.Order, inst int) api.Errno {
	if order.Right(o) != api.OK || inst < 0 || inst > 7 {
		return api.ErrArg
	}
	if o.Qty > l.Qty {
		return api.ErrLimit
	}
	if value, err := order.Value(o); err != api.OK || value > l.Value {
		return api.ErrLimit
	}
	qty := exact(o.Qty)
	if isGreater(sum(exact(a.Open(o.Trader)), qty), exact(l.Open)) {
		return api.ErrLimit
	}
	pos, open := exact(a.Pos(o.Trader, inst)), exact(a.OpenAt(o.Trader, inst))
	if o.Side == api.Buy && isGreater(sum(pos, open, qty), exact(l.Pos)) {
		return api.ErrLimit
	}
	if o.Side == api.Sell && isGreater(opposite(exact(l.Pos)), sum(pos, opposite(open), opposite(qty))) {
		return api.ErrLimit
	}
	return api.OK
}

// drawnAccts has something open and some positions of a few traders.
func drawnAccts(t *testing.T, r *rand.Rand) *acct.Accts {
	t.Helper()
	a := acct.New()
	for range r.Intn(40) {
		n, inst := r.Intn(3), r.Intn(8)
		size := []int{10, 1000, mostQty}[r.Intn(3)]
		opened(t, a, n, inst, r.Intn(size))
		traded(t, a, n, inst, r.Intn(2*size)-size)
	}
	return a
}

// drawnOrder is mostly valid.
func drawnOrder(r *rand.Rand) api.Order {
	size := []int{10, 1000, mostQty}[r.Intn(3)]
	o := api.Order{Trader: r.Intn(4), Id: r.Intn(5), Firm: r.Intn(8), Side: 1 + r.Intn(2), Kind: 1 + r.Intn(5),
		Price: 1 + r.Intn(size), Qty: 1 + r.Intn(size), Stop: r.Intn(2) * r.Intn(size)}
	if o.Kind == api.Market {
		o.Price = 0
	}
	if o.Kind == api.Limit || o.Kind == api.Post {
		o.Show = r.Intn(o.Qty + 1)
	}
	if r.Intn(10) == 0 {
		f := fields(o)[r.Intn(9)]
		*f.of(&o) = append(far(), f.not...)[r.Intn(len(f.not)+len(far()))]
	}
	return o
}

// drawnLimits lie about what the order needs: at it, one beside it, or off.
func drawnLimits(r *rand.Rand, a *acct.Accts, o api.Order, inst int) api.Limits {
	pos := a.Pos(o.Trader, inst)
	if o.Side == api.Sell {
		pos = -pos
	}
	needs := []int{o.Qty, o.Price * o.Qty, a.Open(o.Trader) + o.Qty, pos + a.OpenAt(o.Trader, inst) + o.Qty}
	l := unbounded()
	for i, f := range limits() {
		switch r.Intn(12) {
		case 0, 1, 2, 3:
			*f.of(&l) = needs[i]
		case 4, 5:
			*f.of(&l) = needs[i] + 1
		case 6:
			*f.of(&l) = needs[i] - 1
		case 7:
			*f.of(&l) = needs[i] + r.Intn(200) - 20
		case 8:
			if r.Intn(4) == 0 {
				*f.of(&l) = far()[r.Intn(len(far()))]
			}
		}
	}
	return l
}

func drawnInst(r *rand.Rand) int {
	if r.Intn(12) == 0 {
		return append(far(), -1, 8)[r.Intn(len(far())+2)]
	}
	return r.Intn(8)
}

func TestDrawnChecks(t *testing.T) {
	r := rand.New(rand.NewSource(161))
	count := map[api.Errno]int{}
	for range 1500 {
		a := drawnAccts(t, r)
		was := pictureOf(a)
		for range 60 {
			o, inst := drawnOrder(r), drawnInst(r)
			l := drawnLimits(r, a, o, inst)
			want := wordByWord(a, l, o, inst)
			holdCheck(t, a, l, o, inst, want)
			count[want]++
		}
		if pictureOf(a) != was {
			t.Fatal("the accounts are changed")
		}
		if t.Failed() {
			return
		}
	}
	if min(count[api.OK], count[api.ErrLimit], count[api.ErrArg]) < 5000 || len(count) != 3 {
		t.Error(count)
	}
}

func TestDrawnLimitsAreRight(t *testing.T) {
	r := rand.New(rand.NewSource(162))
	right := 0
	for range 20000 {
		l := widest()
		for _, f := range limits() {
			switch r.Intn(8) {
			case 0:
				*f.of(&l) = []int{-1, 0, 1, mostQty + 1, mostTick + 1, math.MaxInt}[r.Intn(6)]
			case 1:
				*f.of(&l) = far()[r.Intn(len(far()))]
			}
		}
		want := l.Qty >= 0 && l.Qty <= mostQty && l.Value >= 0 && l.Open >= 0 && l.Open <= mostTick && l.Pos >= 0 && l.Pos <= mostTick
		holdRight(t, l, want)
		if want {
			right++
		}
	}
	if right < 2000 || right > 18000 {
		t.Error(right)
	}
}

// wider holds limits of which some are farther out, by as little as one and up
// to the greatest, and none is nearer.
func wider(r *rand.Rand, l api.Limits) api.Limits {
	for _, f := range limits() {
		n := f.of(&l)
		switch r.Intn(4) {
		case 0:
			*n += min(1, math.MaxInt-max(*n, 0))
		case 1:
			*n += min(1+r.Intn(1000), math.MaxInt-max(*n, 0))
		case 2:
			*n = max(*n, []int{0, mostQty, mostTick, math.MaxInt}[r.Intn(4)])
		}
	}
	return l
}

func TestWiderLimitsNeverRejectMore(t *testing.T) {
	r := rand.New(rand.NewSource(163))
	held, let := 0, 0
	for range 1000 {
		a := drawnAccts(t, r)
		for range 40 {
			o, inst := drawnOrder(r), drawnInst(r)
			l := drawnLimits(r, a, o, inst)
			w := wider(r, l)
			was, is := risk.Check(a, l, o, inst), risk.Check(a, w, o, inst)
			if was == api.OK {
				held++
			} else if is == api.OK {
				let++
			}
			if (was == api.OK && is != api.OK) || (was == api.ErrArg) != (is == api.ErrArg) {
				t.Fatalf("%+v: with %+v %d, with %+v %d", o, l, was, w, is)
			}
		}
	}
	if held < 5000 || let < 1000 {
		t.Error(held, let)
	}
}

// Each limit is widened by itself, from what keeps every order out to what lets
// every one in: once an order is let in, it is from there on.
func TestOneLimitThatGetsWider(t *testing.T) {
	r := rand.New(rand.NewSource(164))
	for range 300 {
		a := drawnAccts(t, r)
		o := drawnOrder(r)
		if order.Right(o) != api.OK {
			continue
		}
		for _, f := range limits() {
			let := false
			for _, n := range []int{math.MinInt, math.MinInt + 1, -1 << 41, -mostQty, -100, -1, 0, 1, 5, 100, 1000, mostQty, 1 << 22, mostTick, 1 << 44, math.MaxInt - 1, math.MaxInt} {
				l := unbounded()
				*f.of(&l) = n
				ok := risk.Check(a, l, o, 3) == api.OK
				if let && !ok {
					t.Fatalf("%+v is let in with less than %+v", o, l)
				}
				let = let || ok
			}
			if !let {
				t.Fatalf("%+v is never let in by %s", o, f.name)
			}
		}
	}
}

// cut is the order with a smaller quantity; no more of it is shown than it has.
func cut(o api.Order, qty int) api.Order {
	o.Qty, o.Show = qty, min(o.Show, qty)
	return o
}

func TestASmallerQuantityIsNeverRejected(t *testing.T) {
	r := rand.New(rand.NewSource(165))
	greater, let := 0, 0
	for range 1000 {
		a := drawnAccts(t, r)
		for range 40 {
			o, inst := drawnOrder(r), drawnInst(r)
			if o.Qty < 2 || o.Qty > mostQty {
				continue
			}
			l := drawnLimits(r, a, o, inst)
			was := risk.Check(a, l, o, inst)
			for _, qty := range []int{1, o.Qty / 2, o.Qty - 1, 1 + r.Intn(o.Qty-1)} {
				is := risk.Check(a, l, cut(o, qty), inst)
				if was == api.OK && is != api.OK {
					t.Fatalf("%+v at %d with %+v: %d of it gets %d", o, inst, l, qty, is)
				}
				if was == api.OK {
					greater++
				} else if is == api.OK {
					let++
				}
			}
		}
	}
	if greater < 5000 || let < 1000 {
		t.Error(greater, let)
	}
}

// All quantities in a row, with each limit at each place: what is accepted is a
// row from 1 on.
func TestQuantitiesInARow(t *testing.T) {
	a := acct.New()
	opened(t, a, 5, 0, 3)
	opened(t, a, 5, 1, 4)
	traded(t, a, 5, 0, -2)
	for _, f := range limits() {
		for n := -5; n < 60; n++ {
			for _, side := range sides() {
				l := unbounded()
				*f.of(&l) = n
				rejected := false
				for qty := 1; qty < 70; qty++ {
					ok := risk.Check(a, l, priced(api.FOK, side, 2, qty), 0) == api.OK
					if ok && rejected {
						t.Fatalf("%d is accepted with %+v, and less isn't", qty, l)
					}
					rejected = !ok
				}
				if !rejected {
					t.Fatalf("%+v accepts all", l)
				}
			}
		}
	}
}
