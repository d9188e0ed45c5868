package allow_test

import (
	"testing"

	"jobber/api"
)

// P14.1: DoTrade.

func TestTradeOfEachInstrument(t *testing.T) {
	for inst := range 8 {
		for bits := range 256 {
			x := api.Trader{Firm: 1, Roles: 1, Insts: bits}
			its := bits&(1<<inst) != 0
			hold(t, only(0, x), api.Phase{}, call{0, api.DoTrade, inst, 0}, okIf(its))
			for h := range 8 {
				want := okIf(its)
				if its && h == inst {
					want = api.ErrState
				}
				hold(t, only(0, x), halted(h), call{0, api.DoTrade, inst, 0}, want)
			}
		}
	}
}

func TestTradeOfNoInstrument(t *testing.T) {
	for _, inst := range far(8) {
		for roles := 1; roles <= 15; roles++ {
			for _, bits := range []int{0, 1, 128, 255} {
				x := made(t, only(31, api.Trader{Firm: 7, Roles: roles, Insts: bits}))
				holdCall(t, x, api.Phase{}, call{31, api.DoTrade, inst, 31}, api.ErrArg)
				holdCall(t, x, halted(0, 1, 2, 3, 4, 5, 6, 7), call{31, api.DoTrade, inst, 31}, api.ErrArg)
			}
		}
	}
}

func TestTradeByEachSetOfRoles(t *testing.T) {
	for roles := 1; roles <= 15; roles++ {
		trades := roles%2 == 1
		for n := range 32 {
			x := made(t, only(n, api.Trader{Firm: 3, Desk: 2, Roles: roles, Insts: 32}))
			holdCall(t, x, api.Phase{}, call{n, api.DoTrade, 5, n}, okIf(trades))
			holdCall(t, x, api.Phase{}, call{n, api.DoTrade, 4, n}, api.ErrDenied)
			holdCall(t, x, halted(4, 6), call{n, api.DoTrade, 5, n}, okIf(trades))
			want := api.ErrDenied
			if trades {
				want = api.ErrState
			}
			holdCall(t, x, halted(5), call{n, api.DoTrade, 5, n}, want)
			holdCall(t, x, halted(4), call{n, api.DoTrade, 4, n}, api.ErrDenied)
		}
	}
}

// An order is one's own: who else there is, and which one is named, is nothing
// to it.
func TestTradeAsksForNoOther(t *testing.T) {
	x := made(t, off(house(), 3, 6))
	for _, other := range append(far(32), 0, 1, 3, 4, 5, 6, 15, 30, 31) {
		holdCall(t, x, api.Phase{}, call{0, api.DoTrade, 7, other}, api.OK)
		holdCall(t, x, api.Phase{}, call{1, api.DoTrade, 7, other}, api.ErrDenied)
		holdCall(t, x, api.Phase{}, call{30, api.DoTrade, 0, other}, api.ErrDenied)
		holdCall(t, x, halted(7), call{0, api.DoTrade, 7, other}, api.ErrState)
		holdCall(t, x, api.Phase{}, call{0, api.DoTrade, 8, other}, api.ErrArg)
	}
}

func TestTradeOfAFirmThatIsKilled(t *testing.T) {
	for firm := range 8 {
		for roles := 1; roles <= 15; roles++ {
			x := made(t, only(9, api.Trader{Firm: firm, Roles: roles, Insts: 255}))
			holdCall(t, x, killed(firm), call{9, api.DoTrade, 0, 9}, api.ErrDenied)
			for other := range 8 {
				if other != firm {
					holdCall(t, x, killed(other), call{9, api.DoTrade, 0, 9}, okIf(roles%2 == 1))
				}
			}
		}
	}
}

func TestTradeAsksForNoGrant(t *testing.T) {
	for firm := range 8 {
		for _, bits := range []int{0, 1 << firm, 255, -1, 255 &^ (1 << firm)} {
			x := made(t, only(9, api.Trader{Firm: firm, Roles: 1, Insts: 2}))
			holdCall(t, x, grants(firm, bits), call{9, api.DoTrade, 1, 9}, api.OK)
			holdCall(t, x, grants(firm, bits), call{9, api.DoTrade, 2, 9}, api.ErrDenied)
		}
	}
}
