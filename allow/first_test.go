package allow_test

import (
	"testing"

	"jobber/api"
)

// P14.1: which error is told where several apply.

// insts and others hold numbers that an action may be asked of: of what there
// is in a house, and of what there isn't.
func insts() []int { return []int{0, 2, 7, 8, -1} }

func others() []int { return []int{0, 1, 6, 31, 4, 32, -1} }

// eachRest calls f with each inst and each other.
func eachRest(f func(inst, other int)) {
	for _, inst := range insts() {
		for _, other := range others() {
			f(inst, other)
		}
	}
}

func phases() []api.Phase {
	return []api.Phase{{}, halted(2), killed(0, 1, 2, 3, 4, 5, 6, 7), busy(8), busy(1), grants(1, -1)}
}

func TestOneThatDoesNotExistIsToldFirst(t *testing.T) {
	x := made(t, off(house(), 0, 2, 30))
	for _, n := range append(far(32), 4, 9, 29) {
		for _, do := range append(actions(), 0, 5, -1, 1<<62) {
			for _, p := range phases() {
				holdCall(t, x, p, call{n, do, 0, 0}, api.ErrNone)
				holdCall(t, x, p, call{n, do, 8, n}, api.ErrNone)
			}
		}
	}
	for _, do := range append(actions(), noActions()...) {
		holdCall(t, x, api.Phase{}, call{4, do, 8, 32}, api.ErrNone)
		eachRest(func(inst, other int) {
			holdCall(t, made(t, list{}), api.Phase{}, call{0, do, inst, other}, api.ErrNone)
		})
	}
}

// A place in the list is that of nobody whatever stands beside it.
func TestEachPlaceWithNobody(t *testing.T) {
	for n := range 32 {
		var l list
		for i := range l {
			l[i] = api.Trader{Firm: 1, Roles: 15, Insts: 255}
		}
		x := made(t, with(l, n, api.Trader{}))
		me := (n + 1) % 32
		for _, do := range actions() {
			holdCall(t, x, api.Phase{}, call{n, do, 0, me}, api.ErrNone)
		}
		holdCall(t, x, api.Phase{}, call{me, api.DoTrade, 0, n}, api.OK)
		holdCall(t, x, api.Phase{}, call{me, api.DoCancel, 0, n}, api.ErrNone)
		holdCall(t, x, api.Phase{}, call{me, api.DoSuspend, 0, n}, api.ErrNone)
		holdCall(t, x, api.Phase{}, call{me, api.DoVenue, 0, n}, api.OK)
	}
}

func TestOffIsToldAheadOfAllElse(t *testing.T) {
	for roles := 1; roles <= 15; roles++ {
		x := made(t, with(house(), 13, api.Trader{Firm: 1, Roles: roles, Insts: 255, Off: true}))
		for _, p := range phases() {
			for _, do := range append(actions(), 0, 5, -1, 1<<62) {
				eachRest(func(inst, other int) {
					holdCall(t, x, p, call{13, do, inst, other}, api.ErrDenied)
				})
				holdCall(t, x, p, call{13, do, 2, 13}, api.ErrDenied)
			}
		}
		for _, do := range noActions() {
			holdCall(t, x, api.Phase{}, call{13, do, 0, 0}, api.ErrDenied)
		}
	}
}

func TestKilledIsToldAheadOfAllElse(t *testing.T) {
	p := killed(1)
	p.Halted[2] = true
	for roles := 1; roles <= 15; roles++ {
		x := made(t, with(house(), 13, api.Trader{Firm: 1, Roles: roles, Insts: 255}))
		for _, do := range append(noActions(), api.DoTrade, api.DoSuspend) {
			eachRest(func(inst, other int) {
				holdCall(t, x, p, call{13, do, inst, other}, api.ErrDenied)
			})
		}
	}
}

// In a firm that is killed a cancel and what the venue's do are as they ever
// are.
func TestWhatAFirmThatIsKilledMayDo(t *testing.T) {
	for firm := range 8 {
		x := made(t, list{0: {Firm: firm, Roles: 1}, 1: {Firm: firm, Roles: 2}, 2: {Firm: firm, Desk: 1, Roles: 4}, 3: {Firm: firm, Desk: 2, Roles: 8}, 4: {Firm: (firm + 1) % 8, Roles: 1, Insts: 1}})
		p := killed(firm)
		p.Grants[firm] = 1 << ((firm + 1) % 8)
		for _, c := range []struct {
			n, other int
			want     api.Errno
		}{{0, 0, api.OK}, {0, 1, api.ErrDenied}, {1, 0, api.OK}, {1, 2, api.ErrDenied}, {2, 0, api.OK}, {2, 4, api.OK}, {3, 0, api.OK}, {3, 4, api.OK}, {3, 5, api.ErrNone}, {0, 32, api.ErrNone}, {4, 0, api.ErrDenied}, {4, 4, api.OK}} {
			holdCall(t, x, p, call{c.n, api.DoCancel, 0, c.other}, c.want)
		}
		for n, want := range []api.Errno{api.ErrDenied, api.ErrDenied, api.ErrDenied, api.OK, api.ErrDenied} {
			holdCall(t, x, p, call{n, api.DoVenue, 0, 0}, want)
		}
		holdCall(t, x, p, call{4, api.DoTrade, 0, 0}, api.OK)
		holdCall(t, x, p, call{3, api.DoSuspend, 0, 0}, api.ErrDenied)
		holdCall(t, x, p, call{2, api.DoSuspend, 0, 0}, api.ErrDenied)
	}
}

func TestNoAction(t *testing.T) {
	for roles := 1; roles <= 15; roles++ {
		x := made(t, with(house(), 13, api.Trader{Firm: 1, Roles: roles, Insts: 255}))
		for _, do := range noActions() {
			for _, p := range []api.Phase{{}, halted(2), busy(1), grants(1, -1)} {
				holdCall(t, x, p, call{13, do, 0, 0}, api.ErrArg)
				holdCall(t, x, p, call{13, do, 2, 13}, api.ErrArg)
				holdCall(t, x, p, call{13, do, 8, 4}, api.ErrArg)
			}
		}
	}
}

func TestTwoErrorsOfATrade(t *testing.T) {
	x := made(t, house())
	for _, c := range []struct {
		n, inst int
		want    api.Errno
	}{
		{5, 8, api.ErrArg}, // no role to trade, beside no instrument
		{5, -1, api.ErrArg},
		{5, 2, api.ErrDenied}, // no role, beside a halt
		{1, 2, api.ErrDenied}, // an instrument that isn't its own, beside a halt
		{0, 2, api.ErrState},
		{0, 1, api.OK},
	} {
		holdCall(t, x, halted(2), call{c.n, api.DoTrade, c.inst, 0}, c.want)
	}
}

func TestAnOtherThatDoesNotExistBesideOneWhoMayDoNothing(t *testing.T) {
	x := made(t, only(0, api.Trader{Firm: 5, Roles: 1}))
	for _, other := range []int{1, 31, 32, -1, 1 << 32, -1 << 63} {
		holdCall(t, x, api.Phase{}, call{0, api.DoCancel, 8, other}, api.ErrNone)
		holdCall(t, x, api.Phase{}, call{0, api.DoSuspend, 8, other}, api.ErrNone)
		holdCall(t, x, api.Phase{}, call{0, api.DoVenue, 8, other}, api.ErrDenied)
	}
}

// May asks the tree and the phase as they are now.
func TestWhatChangesBetweenTwoCalls(t *testing.T) {
	x := made(t, house())
	mine, cancel := call{0, api.DoTrade, 1, 0}, call{2, api.DoCancel, 0, 6}
	for range 2 {
		holdCall(t, x, api.Phase{}, mine, api.OK)
		holdCall(t, x, halted(1), mine, api.ErrState)
		holdCall(t, x, killed(1), mine, api.ErrDenied)
		holdCall(t, x, api.Phase{}, cancel, api.ErrDenied)
		holdCall(t, x, grants(1, 4), cancel, api.OK)
		x.Off(0, true)
		holdCall(t, x, api.Phase{}, mine, api.ErrDenied)
		holdCall(t, x, grants(1, 4), cancel, api.OK)
		x.Off(2, true)
		holdCall(t, x, grants(1, 4), cancel, api.ErrDenied)
		x.Off(0, false)
		x.Off(2, false)
	}
}
