package order_test

import (
	"math"
	"math/big"
	"slices"
	"testing"

	"jobber/api"
	"jobber/order"
)

// strange holds sides that are not of api: they go the way of a Sell.
func strange() []int { return []int{math.MinInt, -2, -1, 0, 3, 4, 9, 257, math.MaxInt} }

// allSides holds those of api, and the strange ones.
func allSides() []int { return append(sides(), strange()...) }

// prices holds ordinary ones, and those that no order may have.
func prices() []int {
	return []int{math.MinInt, math.MinInt + 1, -1 << 20, -5, -1, 0, 1, 2, 5, 1000,
		1<<20 - 1, 1 << 20, 1<<20 + 1, math.MaxInt - 1, math.MaxInt}
}

// around is a price with those beside it, as far as there are any.
func around(n int) []int {
	l := []int{n}
	if n > math.MinInt {
		l = append(l, n-1)
	}
	if n < math.MaxInt {
		l = append(l, n+1)
	}
	return l
}

// eachPair hands over every two of the prices, and each with those beside it.
func eachPair(f func(a, b int)) {
	for _, a := range prices() {
		for _, b := range slices.Concat(prices(), around(a)) {
			f(a, b)
		}
	}
}

// P8.2.

func holdCrosses(t *testing.T, o api.Order, price int, want bool) {
	t.Helper()
	if got := order.Crosses(o, price); got != want {
		t.Errorf("Crosses(%+v, %d) = %v", o, price, got)
	}
}

func TestCrossesAtBelowAndAbove(t *testing.T) {
	for _, kind := range []int{api.Limit, api.IOC, api.FOK, api.Post} {
		for side, want := range map[int][3]bool{
			api.Buy:  {true, true, false},
			api.Sell: {false, true, true},
		} {
			o := api.Order{Side: side, Kind: kind, Price: 5, Qty: 3}
			holdCrosses(t, o, 4, want[0])
			holdCrosses(t, o, 5, want[1])
			holdCrosses(t, o, 6, want[2])
		}
	}
}

func TestCrossesOfAStrangeSideIsThatOfASell(t *testing.T) {
	for _, side := range strange() {
		o := api.Order{Side: side, Kind: api.Limit, Price: 5, Qty: 3}
		holdCrosses(t, o, 4, false)
		holdCrosses(t, o, 5, true)
		holdCrosses(t, o, 6, true)
	}
}

func TestAMarketCrossesAlways(t *testing.T) {
	for _, side := range allSides() {
		eachPair(func(a, b int) {
			holdCrosses(t, api.Order{Side: side, Kind: api.Market, Price: a, Qty: 3}, b, true)
			holdCrosses(t, api.Order{Side: side, Kind: api.Market, Price: a}, b, true)
		})
	}
}

// Kinds that are not of api go by their Price, as all but a Market do.
func TestCrossesOfManyPrices(t *testing.T) {
	for _, kind := range []int{math.MinInt, -2, 0, api.Limit, api.IOC, api.FOK, api.Post, 6, 258, math.MaxInt} {
		eachPair(func(a, b int) {
			holdCrosses(t, api.Order{Side: api.Buy, Kind: kind, Price: a, Qty: 1}, b, a >= b)
			for _, side := range append(strange(), api.Sell) {
				holdCrosses(t, api.Order{Side: side, Kind: kind, Price: a, Qty: 1}, b, a <= b)
			}
		})
	}
}

// Neither who has the order, nor how much it is for, nor its Stop counts.
func TestCrossesLooksAtNothingElse(t *testing.T) {
	for _, n := range prices() {
		buy := api.Order{Trader: n, Id: n, Firm: n, Side: api.Buy, Kind: api.Limit, Price: 5, Qty: n, Show: n, Stop: n}
		sell := buy
		sell.Side = api.Sell
		holdCrosses(t, buy, 4, true)
		holdCrosses(t, buy, 5, true)
		holdCrosses(t, buy, 6, false)
		holdCrosses(t, sell, 4, false)
		holdCrosses(t, sell, 5, true)
		holdCrosses(t, sell, 6, true)
	}
}

// P8.3.

func holdHit(t *testing.T, o api.Order, last int, want bool) {
	t.Helper()
	if got := order.Hit(o, last); got != want {
		t.Errorf("Hit(%+v, %d) = %v", o, last, got)
	}
}

func TestHitAtBelowAndAbove(t *testing.T) {
	for _, kind := range kinds() {
		buy := api.Order{Side: api.Buy, Kind: kind, Qty: 3, Stop: 7}
		holdHit(t, buy, 6, false)
		holdHit(t, buy, 7, true)
		holdHit(t, buy, 8, true)
		for _, side := range append(strange(), api.Sell) {
			sell := buy
			sell.Side = side
			holdHit(t, sell, 6, true)
			holdHit(t, sell, 7, true)
			holdHit(t, sell, 8, false)
		}
	}
}

func TestHitWithoutAStop(t *testing.T) {
	for _, side := range allSides() {
		for _, stop := range []int{0, -1, -7, math.MinInt} {
			for _, last := range prices() {
				holdHit(t, api.Order{Side: side, Kind: api.Limit, Price: 5, Qty: 3, Stop: stop}, last, false)
			}
		}
	}
}

func TestHitWithoutATrade(t *testing.T) {
	for _, side := range allSides() {
		for _, last := range []int{0, -1, -7, math.MinInt} {
			for _, stop := range prices() {
				holdHit(t, api.Order{Side: side, Kind: api.Limit, Price: 5, Qty: 3, Stop: stop}, last, false)
			}
		}
	}
}

func TestHitOfTheLeastPrices(t *testing.T) {
	holdHit(t, api.Order{Side: api.Buy, Stop: 1}, 1, true)
	holdHit(t, api.Order{Side: api.Buy, Stop: 1}, 2, true)
	holdHit(t, api.Order{Side: api.Buy, Stop: 2}, 1, false)
	holdHit(t, api.Order{Side: api.Sell, Stop: 1}, 1, true)
	holdHit(t, api.Order{Side: api.Sell, Stop: 1}, 2, false)
	holdHit(t, api.Order{Side: api.Sell, Stop: 2}, 1, true)
}

func TestHitOfManyPrices(t *testing.T) {
	eachPair(func(stop, last int) {
		both := stop > 0 && last > 0
		holdHit(t, api.Order{Side: api.Buy, Stop: stop}, last, both && last >= stop)
		for _, side := range append(strange(), api.Sell) {
			holdHit(t, api.Order{Side: side, Stop: stop}, last, both && last <= stop)
		}
	})
}

// A Market is triggered like all others, and the Price does not count.
func TestHitLooksAtNothingElse(t *testing.T) {
	for _, kind := range append(kinds(), -1, 0, 6, math.MinInt, math.MaxInt) {
		for _, n := range prices() {
			buy := api.Order{Trader: n, Id: n, Firm: n, Side: api.Buy, Kind: kind, Price: n, Qty: n, Show: n, Stop: 7}
			sell := buy
			sell.Side = api.Sell
			holdHit(t, buy, 6, false)
			holdHit(t, buy, 7, true)
			holdHit(t, sell, 7, true)
			holdHit(t, sell, 8, false)
		}
	}
}

// P8.4.

func holdBetter(t *testing.T, side, a, b int, want bool) {
	t.Helper()
	if got := order.Better(side, a, b); got != want {
		t.Errorf("Better(%d, %d, %d) = %v", side, a, b, got)
	}
}

func TestBetterEitherWayRound(t *testing.T) {
	for _, pair := range [][2]int{{2, 3}, {0, 1}, {-1, 0}, {-3, -2}, {-1, 1}, {1, 1 << 20},
		{math.MinInt, math.MinInt + 1}, {math.MaxInt - 1, math.MaxInt}, {math.MinInt, math.MaxInt},
		{math.MinInt, 1}, {-1, math.MaxInt}} {
		less, more := pair[0], pair[1]
		holdBetter(t, api.Buy, more, less, true)
		holdBetter(t, api.Buy, less, more, false)
		for _, side := range append(strange(), api.Sell) {
			holdBetter(t, side, more, less, false)
			holdBetter(t, side, less, more, true)
		}
	}
}

func TestBetterOfLikePrices(t *testing.T) {
	for _, side := range allSides() {
		for _, price := range prices() {
			holdBetter(t, side, price, price, false)
		}
	}
}

func TestBetterOfManyPrices(t *testing.T) {
	eachPair(func(a, b int) {
		holdBetter(t, api.Buy, a, b, a > b)
		for _, side := range append(strange(), api.Sell) {
			holdBetter(t, side, a, b, a < b)
		}
	})
}

func holdValue(t *testing.T, o api.Order, want int, err api.Errno) {
	t.Helper()
	if got, e := order.Value(o); got != want || e != err {
		t.Errorf("Value(%+v) = %d, %d; want %d, %d", o, got, e, want, err)
	}
}

func TestValue(t *testing.T) {
	for _, c := range []struct {
		price, qty, want int
		err              api.Errno
	}{
		{5, 3, 15, api.OK},
		{3, 5, 15, api.OK},
		{1, 1, 1, api.OK},
		{1 << 20, 1 << 20, 1 << 40, api.OK},
		{0, 3, 0, api.OK},
		{5, 0, 0, api.OK},
		{0, 0, 0, api.OK},
		{0, math.MaxInt, 0, api.OK},
		{math.MaxInt, 0, 0, api.OK},
		{1, math.MaxInt, math.MaxInt, api.OK},
		{math.MaxInt, 1, math.MaxInt, api.OK},
		{7, math.MaxInt / 7, math.MaxInt, api.OK},
		{math.MaxInt / 7, 7, math.MaxInt, api.OK},
		{2, 1<<62 - 1, math.MaxInt - 1, api.OK},
		{1 << 32, 1<<31 - 1, 1<<63 - 1<<32, api.OK},
		{1 << 32, 1 << 31, 0, api.ErrOver},
		{2, 1 << 62, 0, api.ErrOver},
		{7, math.MaxInt/7 + 1, 0, api.ErrOver},
		{1 << 32, 1 << 32, 0, api.ErrOver},
		{math.MaxInt, math.MaxInt, 0, api.ErrOver},
		{-1, 1, 0, api.ErrArg},
		{1, -1, 0, api.ErrArg},
		{-5, -3, 0, api.ErrArg},
		{-1, 0, 0, api.ErrArg},
		{0, -1, 0, api.ErrArg},
		{-1, math.MaxInt, 0, api.ErrArg},
		{math.MaxInt, math.MinInt, 0, api.ErrArg},
		{math.MinInt, math.MinInt, 0, api.ErrArg},
	} {
		holdValue(t, api.Order{Side: api.Buy, Kind: api.Limit, Price: c.price, Qty: c.qty}, c.want, c.err)
	}
}

func TestValueOfManyNumbers(t *testing.T) {
	eachPair(func(price, qty int) {
		want, err := 0, api.OK
		product := new(big.Int).Mul(big.NewInt(int64(price)), big.NewInt(int64(qty)))
		switch {
		case price < 0 || qty < 0:
			err = api.ErrArg
		case !product.IsInt64():
			err = api.ErrOver
		default:
			want = int(product.Int64())
		}
		holdValue(t, api.Order{Price: price, Qty: qty}, want, err)
	})
}

// Also of a Market, of what is not valid, and of an order that shows less.
func TestValueLooksAtNothingElse(t *testing.T) {
	for _, kind := range append(kinds(), -1, 0, 6) {
		for _, n := range prices() {
			holdValue(t, api.Order{Trader: n, Id: n, Firm: n, Side: n, Kind: kind, Price: 5, Qty: 3, Show: n, Stop: n}, 15, api.OK)
		}
	}
}

// 'Ways': orders are values.

func TestOrdersStayAsTheyWere(t *testing.T) {
	eachBase(func(base api.Order) {
		for _, n := range append(prices(), 0) {
			o := base
			o.Price, o.Stop = n, n
			was := o
			order.Right(o)
			order.Crosses(o, 5)
			order.Hit(o, 5)
			order.Value(o)
			if o != was {
				t.Errorf("%+v became %+v", was, o)
			}
		}
	})
}

// What was asked before has no influence.
func TestTheSameAnswersAgain(t *testing.T) {
	buy := api.Order{Side: api.Buy, Kind: api.Limit, Price: 5, Qty: 3, Stop: 7}
	for range 3 {
		holdRight(t, buy, true)
		holdRight(t, api.Order{}, false)
		holdCrosses(t, buy, 5, true)
		holdCrosses(t, buy, 6, false)
		holdHit(t, buy, 7, true)
		holdHit(t, buy, 6, false)
		holdBetter(t, api.Buy, 3, 2, true)
		holdBetter(t, api.Sell, 3, 2, false)
		holdValue(t, buy, 15, api.OK)
		holdValue(t, api.Order{Price: -1}, 0, api.ErrArg)
	}
}

func TestTheChaptersExample(t *testing.T) {
	holdCrosses(t, api.Order{Side: api.Buy, Kind: api.Limit, Price: 5, Qty: 1}, 5, true)
	holdCrosses(t, api.Order{Side: api.Sell, Kind: api.Limit, Price: 5, Qty: 1}, 4, false)
	holdHit(t, api.Order{Side: api.Sell, Kind: api.Limit, Price: 5, Qty: 1, Stop: 7}, 7, true)
	holdBetter(t, api.Buy, 3, 2, true)
	holdRight(t, api.Order{Side: api.Buy, Kind: api.Market, Price: 5, Qty: 1}, false)
}
