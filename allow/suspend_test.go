package allow_test

import (
	"testing"

	"jobber/api"
	"jobber/tree"
)

// P14.1: DoSuspend.

func maySuspend(roles int, k kin) bool { return roles&8 != 0 || roles&4 != 0 && k.sameFirm }

func TestSuspendOfAnother(t *testing.T) {
	for _, k := range kins() {
		t.Run(k.name, func(t *testing.T) {
			eachPair(t, k, func(x *tree.Tree, n, other int, l list) {
				want := okIf(maySuspend(l[n].Roles, k))
				eachOff(x, other, func() {
					holdCall(t, x, api.Phase{}, call{n, api.DoSuspend, 0, other}, want)
					holdCall(t, x, busy(1), call{n, api.DoSuspend, 0, other}, want)
					holdCall(t, x, killed(1), call{n, api.DoSuspend, 0, other}, api.ErrDenied)
				})
				x.Off(n, true)
				holdCall(t, x, api.Phase{}, call{n, api.DoSuspend, 0, other}, api.ErrDenied)
			})
		})
	}
}

func TestNoGrantIsOneToSuspend(t *testing.T) {
	for _, k := range kins() {
		for bits := range sponsors(k.firm) {
			eachPair(t, k, func(x *tree.Tree, n, other int, l list) {
				want := okIf(maySuspend(l[n].Roles, k))
				holdCall(t, x, grants(1, bits), call{n, api.DoSuspend, 0, other}, want)
			})
		}
	}
}

func TestNobodySuspendsItself(t *testing.T) {
	for roles := 1; roles <= 15; roles++ {
		for n := range 32 {
			x := made(t, only(n, api.Trader{Firm: 2, Desk: 3, Roles: roles}))
			for _, off := range []bool{false, true} {
				x.Off(n, off)
				for _, p := range []api.Phase{{}, busy(2), killed(2), grants(2, -1)} {
					holdCall(t, x, p, call{n, api.DoSuspend, 0, n}, api.ErrDenied)
				}
			}
		}
	}
}

func TestSuspendOfOneThatDoesNotExist(t *testing.T) {
	for roles := 1; roles <= 15; roles++ {
		x := made(t, only(6, api.Trader{Firm: 0, Roles: roles}))
		for _, other := range append(far(32), 0, 5, 7, 31) {
			holdCall(t, x, api.Phase{}, call{6, api.DoSuspend, 0, other}, api.ErrNone)
			holdCall(t, x, grants(0, -1), call{6, api.DoSuspend, 0, other}, api.ErrNone)
			holdCall(t, x, busy(0), call{6, api.DoSuspend, 0, other}, api.ErrNone)
		}
	}
}

func TestSuspendAsksForNoInstrument(t *testing.T) {
	x := made(t, house())
	for _, inst := range append(far(8), 0, 1, 2, 3, 4, 5, 6, 7) {
		holdCall(t, x, busy(1), call{2, api.DoSuspend, inst, 0}, api.OK)
		holdCall(t, x, busy(1), call{1, api.DoSuspend, inst, 0}, api.ErrDenied)
		holdCall(t, x, busy(1), call{2, api.DoSuspend, inst, 4}, api.ErrNone)
	}
}

func TestSuspensionsInAHouse(t *testing.T) {
	for _, c := range []struct {
		n, other int
		want     api.Errno
	}{
		{0, 0, api.ErrDenied}, {0, 1, api.ErrDenied}, {1, 0, api.ErrDenied}, {5, 3, api.ErrDenied}, {1, 4, api.ErrNone},
		{2, 0, api.OK}, {2, 5, api.OK}, {2, 2, api.ErrDenied}, {2, 6, api.ErrDenied}, {2, 30, api.ErrDenied}, {2, 29, api.ErrNone},
		{8, 6, api.OK}, {8, 7, api.OK}, {8, 3, api.ErrDenied}, {8, 8, api.ErrDenied}, {15, 3, api.ErrDenied}, {15, 15, api.ErrDenied},
		{30, 0, api.OK}, {30, 31, api.OK}, {30, 30, api.ErrDenied}, {31, 30, api.OK}, {31, 8, api.OK}, {31, 29, api.ErrNone},
	} {
		hold(t, house(), api.Phase{}, call{c.n, api.DoSuspend, 0, c.other}, c.want)
	}
}
