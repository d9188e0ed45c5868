package risk_test

import (
	"math"
	"testing"

	"jobber/acct"
	"jobber/api"
	"jobber/risk"
)

// P16.2 with limits that are not valid: Check is asked with them, too, and
// takes them as the numbers they are.

// odd holds accounts with positions so far out that a limit below 0 is kept by
// what brings them back.
func odd(t *testing.T) *acct.Accts {
	t.Helper()
	a := acct.New()
	traded(t, a, 5, 0, 1000)
	traded(t, a, 5, 1, -1000)
	return a
}

func TestNegativeLimits(t *testing.T) {
	a := odd(t)
	for inst := range 3 {
		eachOrder(func(o api.Order) {
			for _, f := range limits()[:3] {
				for _, n := range []int{-1, -2, -30, -mostTick, math.MinInt, math.MinInt + 1} {
					l := unbounded()
					*f.of(&l) = n
					if risk.Right(l) {
						t.Errorf("Right(%+v)", l)
					}
					holdCheck(t, a, l, o, inst, api.ErrLimit)
				}
			}
		})
	}
}

// A limit of a position below 0 asks for one beyond 0 on the other side.
func TestANegativeLimitOfThePosition(t *testing.T) {
	a := odd(t)
	eachOrder(func(o api.Order) {
		o.Qty = 100
		out, back := 0, 1
		if o.Side == api.Sell {
			out, back = 1, 0
		}
		holdEdge(t, a, o, out, limits()[3], 1100)
		holdEdge(t, a, o, back, limits()[3], -900)
		holdEdge(t, a, o, 2, limits()[3], 100)
	})
}

// The least int has no opposite, so a limit that is turned round would be none.
func TestTheLeastLimitOfThePosition(t *testing.T) {
	for _, a := range []*acct.Accts{acct.New(), odd(t)} {
		for _, pos := range []int{math.MinInt, math.MinInt + 1, math.MinInt + 2, math.MinInt + mostQty, math.MinInt + mostTick} {
			l := unbounded()
			l.Pos = pos
			for inst := range 8 {
				eachOrder(func(o api.Order) { holdCheck(t, a, l, o, inst, api.ErrLimit) })
			}
		}
	}
}

func TestLimitsBeyondTheirMost(t *testing.T) {
	a := odd(t)
	opened(t, a, 5, 0, mostTick)
	for _, n := range far() {
		for inst := range 3 {
			eachOrder(func(o api.Order) {
				want := api.ErrLimit
				if n > 0 && n >= 2*mostTick {
					want = api.OK
				}
				for _, l := range []api.Limits{all(n), {Qty: n, Value: math.MaxInt, Open: n, Pos: n}} {
					if n >= 0 && n < 2*mostTick {
						continue // neither far off nor negative
					}
					holdCheck(t, a, l, o, inst, want)
				}
			})
		}
	}
}
