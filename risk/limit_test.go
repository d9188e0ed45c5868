package risk_test

import (
	"math"
	"testing"

	"jobber/acct"
	"jobber/api"
)

// P16.2: each of the limits by itself.

// holdEdge holds that this is the least number with which a field of the limits
// lets the order pass, while the others are wide.
func holdEdge(t *testing.T, a *acct.Accts, o api.Order, inst int, f limit, least int) {
	t.Helper()
	for _, wide := range []api.Limits{unbounded(), all(mostTick * 16)} {
		for _, n := range []int{least, least + 1, least + mostTick, math.MaxInt, math.MaxInt - 1} {
			l := wide
			*f.of(&l) = n
			holdCheck(t, a, l, o, inst, api.OK)
		}
		for _, n := range []int{least - 1, least - 2, least - mostTick, math.MinInt, math.MinInt + 1} {
			l := wide
			*f.of(&l) = n
			holdCheck(t, a, l, o, inst, api.ErrLimit)
		}
	}
}

// need is what an order needs of each limit.
type need struct{ value, open, pos int }

func holdEdges(t *testing.T, a *acct.Accts, o api.Order, inst int, n need) {
	t.Helper()
	for i, least := range []int{o.Qty, n.value, n.open, n.pos} {
		holdEdge(t, a, o, inst, limits()[i], least)
	}
	exact := api.Limits{Qty: o.Qty, Value: n.value, Open: n.open, Pos: n.pos}
	holdCheck(t, a, exact, o, inst, api.OK)
}

func valueOf(o api.Order) int { return o.Price * o.Qty }

func TestEachLimitByItself(t *testing.T) {
	a := acct.New()
	for _, pair := range [][2]int{{1, 1}, {10, 5}, {5, 10}, {mostPrice, 1}, {1, mostQty}, {mostPrice, mostQty}, {mostPrice - 1, mostQty - 1}} {
		for _, kind := range kinds() {
			for _, side := range sides() {
				o := priced(kind, side, pair[0], pair[1])
				for _, inst := range []int{0, 4, 7} {
					holdEdges(t, a, o, inst, need{valueOf(o), o.Qty, o.Qty})
				}
			}
		}
	}
}

// What of an order is seen, and what it waits for, says nothing here.
func TestShowAndStopSayNothing(t *testing.T) {
	a := acct.New()
	opened(t, a, 5, 1, 20)
	traded(t, a, 5, 1, 3)
	for _, kind := range []int{api.Limit, api.Post} {
		for _, side := range sides() {
			for _, show := range []int{0, 1, 9} {
				for _, stop := range []int{0, 1, mostPrice} {
					o := priced(kind, side, 7, 9)
					o.Show, o.Stop = show, stop
					holdEdges(t, a, o, 1, need{63, 29, 29 + []int{3, -3}[side-1]})
				}
			}
		}
	}
}

func TestTheOrdersEndsInEachField(t *testing.T) {
	a := acct.New()
	for _, n := range []int{0, 31} {
		opened(t, a, n, 3, 10)
		traded(t, a, n, 3, 4)
	}
	for _, side := range sides() {
		least := api.Order{Side: side, Kind: api.Limit, Price: 1, Qty: 1}
		most := api.Order{Trader: 31, Id: mostId, Firm: 7, Side: side, Kind: api.Limit,
			Price: mostPrice, Qty: mostQty, Show: mostQty, Stop: mostPrice}
		for _, o := range []api.Order{least, most} {
			holdEdges(t, a, o, 3, need{valueOf(o), 10 + o.Qty, 10 + o.Qty + []int{4, -4}[side-1]})
		}
	}
}

func TestWhatIsOpenElsewhereCountsForOpenAlone(t *testing.T) {
	a := acct.New()
	for inst := range 8 {
		opened(t, a, 5, inst, 100<<inst)
		traded(t, a, 5, inst, 7*inst-20)
	}
	sum := 100 * 255
	for inst := range 8 {
		for _, kind := range kinds() {
			o := priced(kind, api.Buy, 3, 50)
			holdEdges(t, a, o, inst, need{valueOf(o), sum + 50, 7*inst - 20 + 100<<inst + 50})
			o.Side = api.Sell
			holdEdges(t, a, o, inst, need{valueOf(o), sum + 50, 20 - 7*inst + 100<<inst + 50})
		}
	}
}

func TestWhatIsOpenAtOneInstrumentAlone(t *testing.T) {
	for at := range 8 {
		a := acct.New()
		opened(t, a, 5, at, 300)
		for inst := range 8 {
			here := 0
			if inst == at {
				here = 300
			}
			for _, side := range sides() {
				holdEdges(t, a, priced(api.Limit, side, 3, 50), inst, need{150, 350, here + 50})
			}
		}
	}
}

func TestOtherTradersCountForNothing(t *testing.T) {
	a := acct.New()
	for n := range 32 {
		if n == 5 {
			continue
		}
		for inst := range 8 {
			opened(t, a, n, inst, 1000+n)
			traded(t, a, n, inst, (n%3-1)*(5000+inst))
		}
	}
	for inst := range 8 {
		eachOrder(func(o api.Order) {
			holdEdges(t, a, o, inst, need{valueOf(o), 30, 30})
		})
	}
}

// The Trader of the order is asked for, and neither its Firm nor its Id.
func TestEachTraderHasItsOwn(t *testing.T) {
	a := acct.New()
	for n := range 32 {
		opened(t, a, n, 2, 10*n)
		opened(t, a, n, 6, 1000*n)
		traded(t, a, n, 2, 3*n-40)
	}
	for n := range 32 {
		for _, firm := range []int{0, 7, n % 8} {
			o := api.Order{Trader: n, Id: 31 - n, Firm: firm, Side: api.Buy, Kind: api.IOC, Price: 2, Qty: 4}
			holdEdges(t, a, o, 2, need{8, 1010*n + 4, 13*n - 36})
			o.Side = api.Sell
			holdEdges(t, a, o, 2, need{8, 1010*n + 4, 7*n + 44})
		}
	}
}

// Nothing is added up from several calls.
func TestCheckKeepsNothing(t *testing.T) {
	a := acct.New()
	l := api.Limits{Qty: 5, Value: 50, Open: 8, Pos: 6}
	for range 10 {
		holdCheck(t, a, l, buy(10, 5), 0, api.OK)
		holdCheck(t, a, l, sell(10, 5), 0, api.OK)
		holdCheck(t, a, l, buy(10, 6), 0, api.ErrLimit)
		holdCheck(t, a, l, buy(10, 5), 8, api.ErrArg)
	}
}

func TestCheckGoesByTheAccountsAsTheyAreNow(t *testing.T) {
	a, b := acct.New(), acct.New()
	l := api.Limits{Qty: 100, Value: 1000, Open: 8, Pos: 6}
	holdCheck(t, a, l, buy(1, 6), 3, api.OK)
	opened(t, a, 5, 3, 3)
	holdCheck(t, a, l, buy(1, 3), 3, api.OK)
	holdCheck(t, a, l, buy(1, 4), 3, api.ErrLimit)
	holdCheck(t, b, l, buy(1, 6), 3, api.OK)
	opened(t, a, 5, 3, -3)
	traded(t, a, 5, 3, 3)
	holdCheck(t, a, l, buy(1, 3), 3, api.OK)
	holdCheck(t, a, l, buy(1, 4), 3, api.ErrLimit)
	holdCheck(t, a, l, sell(1, 8), 3, api.OK)
	holdCheck(t, a, l, sell(1, 9), 3, api.ErrLimit)
	holdCheck(t, b, l, buy(1, 6), 3, api.OK)
}

func TestCheckChangesNoAccounts(t *testing.T) {
	a := acct.New()
	for n := range 32 {
		for inst := range 8 {
			opened(t, a, n, inst, 8*n+inst)
			traded(t, a, n, inst, 40*inst-n)
		}
	}
	was := pictureOf(a)
	for _, l := range bounds() {
		for inst := -1; inst < 9; inst++ {
			eachOrder(func(o api.Order) {
				for _, n := range []int{-1, 0, 5, 31, 32} {
					o.Trader = n
					want := api.ErrLimit
					if n < 0 || n > 31 || inst < 0 || inst > 7 {
						want = api.ErrArg
					} else if l.Qty > 0 {
						want = api.OK
					}
					holdCheck(t, a, l, o, inst, want)
				}
			})
			if pictureOf(a) != was {
				t.Fatalf("the accounts are changed behind %+v, %d", l, inst)
			}
		}
	}
}
