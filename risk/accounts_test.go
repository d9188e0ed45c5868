package risk_test

import (
	"testing"

	"jobber/acct"
	"jobber/api"
)

// P16.2: positions on both sides of 0, and accounts at their ends.

func TestPositionsAboveAndBelowNothing(t *testing.T) {
	for _, pos := range []int{-1000, -51, -50, -49, -1, 0, 1, 49, 50, 51, 1000, mostQty, -mostQty} {
		for _, open := range []int{0, 1, 100} {
			a := acct.New()
			opened(t, a, 5, 6, open)
			traded(t, a, 5, 6, pos)
			eachOrder(func(o api.Order) {
				o.Qty = 50
				least := pos + open + 50
				if o.Side == api.Sell {
					least = -pos + open + 50
				}
				holdEdges(t, a, o, 6, need{valueOf(o), open + 50, least})
			})
		}
	}
}

// A position beyond a limit on one side bars what takes it farther, and lets
// what brings it back; on the other side the limit holds as ever.
func TestPositionsBeyondALimitAreBroughtBack(t *testing.T) {
	l := unbounded()
	l.Pos = 10
	for _, side := range sides() {
		a, away, back := acct.New(), side, 3-side
		traded(t, a, 5, 1, []int{25, -25}[side-1])
		for _, qty := range []int{1, 15, 35, 36} {
			holdCheck(t, a, l, priced(api.IOC, away, 1, qty), 1, api.ErrLimit)
		}
		for _, qty := range []int{1, 14, 15, 25, 34, 35} {
			holdCheck(t, a, l, priced(api.IOC, back, 1, qty), 1, api.OK)
		}
		holdCheck(t, a, l, priced(api.IOC, back, 1, 36), 1, api.ErrLimit)
		for _, inst := range []int{0, 2} {
			holdCheck(t, a, l, priced(api.IOC, away, 1, 10), inst, api.OK)
			holdCheck(t, a, l, priced(api.IOC, away, 1, 11), inst, api.ErrLimit)
			holdCheck(t, a, l, priced(api.IOC, back, 1, 10), inst, api.OK)
			holdCheck(t, a, l, priced(api.IOC, back, 1, 11), inst, api.ErrLimit)
		}
	}
}

// What is open counts on both sides, whatever the side is that it is open on.
func TestWhatIsOpenCountsOnTheWayBackToo(t *testing.T) {
	l := unbounded()
	l.Pos = 10
	for _, side := range sides() {
		a, back := acct.New(), 3-side
		traded(t, a, 5, 1, []int{25, -25}[side-1])
		opened(t, a, 5, 1, 30)
		holdCheck(t, a, l, priced(api.Limit, back, 1, 5), 1, api.OK)
		holdCheck(t, a, l, priced(api.Limit, back, 1, 6), 1, api.ErrLimit)
		holdCheck(t, a, l, priced(api.Limit, side, 1, 1), 1, api.ErrLimit)
	}
}

// full holds accounts in which trader 5 has as much open in every instrument as
// may be, and positions at both ends and at 0.
func full(t *testing.T) *acct.Accts {
	t.Helper()
	a := acct.New()
	for inst := range 8 {
		opened(t, a, 5, inst, mostTick)
		traded(t, a, 5, inst, (inst%3-1)*mostTick)
	}
	return a
}

func TestAccountsThatAreFull(t *testing.T) {
	a := full(t)
	for inst := range 8 {
		pos := (inst%3 - 1) * mostTick
		for _, qty := range []int{1, 50, mostQty} {
			eachOrder(func(o api.Order) {
				o.Qty = qty
				least := pos + mostTick + qty
				if o.Side == api.Sell {
					least = -pos + mostTick + qty
				}
				holdEdges(t, a, o, inst, need{valueOf(o), 8*mostTick + qty, least})
				holdCheck(t, a, widest(), o, inst, api.ErrLimit)
			})
		}
	}
	// To another trader all of this is nothing.
	for inst := range 8 {
		o := buy(2, 3)
		o.Trader = 6
		holdEdges(t, a, o, inst, need{6, 3, 3})
	}
}

// One instrument is full alone: the widest of the valid limits bars any more.
func TestOneInstrumentThatIsFull(t *testing.T) {
	a := acct.New()
	opened(t, a, 5, 4, mostTick)
	for inst := range 8 {
		eachOrder(func(o api.Order) { holdCheck(t, a, widest(), o, inst, api.ErrLimit) })
	}
	opened(t, a, 5, 4, -30)
	for inst := range 8 {
		eachOrder(func(o api.Order) {
			holdCheck(t, a, widest(), o, inst, api.OK)
			o.Qty = 31
			holdCheck(t, a, widest(), o, inst, api.ErrLimit)
		})
	}
}
