package allow_test

import (
	"testing"

	"jobber/api"
)

// P14.1: DoVenue.

func TestVenueByEachSetOfRoles(t *testing.T) {
	for roles := 1; roles <= 15; roles++ {
		want := okIf(roles >= 8)
		for firm := range 8 {
			x := made(t, only(17, api.Trader{Firm: firm, Desk: 15, Roles: roles, Insts: 255}))
			for _, p := range []api.Phase{{}, busy(firm), killed(firm), grants(firm, -1)} {
				holdCall(t, x, p, call{17, api.DoVenue, 0, 17}, want)
			}
			x.Off(17, true)
			for _, p := range []api.Phase{{}, busy(firm), killed(firm), grants(firm, -1)} {
				holdCall(t, x, p, call{17, api.DoVenue, 0, 17}, api.ErrDenied)
			}
		}
	}
}

func TestVenueAsksForNothingElse(t *testing.T) {
	x := made(t, house())
	for _, n := range append(far(32), 0, 4, 30, 31) {
		holdCall(t, x, api.Phase{}, call{30, api.DoVenue, 0, n}, api.OK)
		holdCall(t, x, api.Phase{}, call{2, api.DoVenue, 0, n}, api.ErrDenied)
	}
	for _, inst := range append(far(8), 0, 7) {
		holdCall(t, x, halted(0, 7), call{30, api.DoVenue, inst, 30}, api.OK)
		holdCall(t, x, halted(0, 7), call{15, api.DoVenue, inst, 30}, api.ErrDenied)
	}
}
