package allow_test

import (
	"math"
	"testing"

	"jobber/api"
	"jobber/tree"
)

// P14.1: DoCancel.

// mayCancel tells whether these roles suffice, without a grant.
func mayCancel(roles int, k kin) bool {
	switch {
	case roles&8 != 0:
		return true
	case roles&4 != 0:
		return k.sameFirm
	case roles&2 != 0:
		return k.sameDesk
	}
	return false
}

func TestCancelWithoutAGrant(t *testing.T) {
	for _, k := range kins() {
		t.Run(k.name, func(t *testing.T) {
			eachPair(t, k, func(x *tree.Tree, n, other int, l list) {
				want := okIf(mayCancel(l[n].Roles, k))
				eachOff(x, other, func() {
					holdCall(t, x, api.Phase{}, call{n, api.DoCancel, 0, other}, want)
					holdCall(t, x, busy(1), call{n, api.DoCancel, 0, other}, want)
					holdCall(t, x, killed(1), call{n, api.DoCancel, 0, other}, want)
				})
				x.Off(n, true)
				holdCall(t, x, api.Phase{}, call{n, api.DoCancel, 0, other}, api.ErrDenied)
			})
		})
	}
}

// sponsors holds what firm 1 may have in its Grants, and whether that firm is
// among it.
func sponsors(firm int) map[int]bool {
	one := 1 << firm
	return map[int]bool{
		one: true, 255: true, one | 1: true, one | 128: true, one | 2: true, -1: true, one | 256: true, one | 1<<62: true, one | math.MinInt: true,
		0: false, 255 &^ one: false, ^one: false, 256: false, 1 << 62: false, math.MinInt: false, -256: false, one<<8 | one<<16 | one<<32: false, firm &^ one: false,
	}
}

func TestCancelWithAGrant(t *testing.T) {
	for _, k := range kins() {
		t.Run(k.name, func(t *testing.T) {
			for bits, granted := range sponsors(k.firm) {
				eachPair(t, k, func(x *tree.Tree, n, other int, l list) {
					byGrant := granted && l[n].Roles&4 != 0
					want := okIf(byGrant || mayCancel(l[n].Roles, k))
					holdCall(t, x, grants(1, bits), call{n, api.DoCancel, 0, other}, want)
				})
			}
		})
	}
}

func TestAGrantBesideAPhaseThatIsBusy(t *testing.T) {
	for _, k := range kins() {
		for bits, granted := range sponsors(k.firm) {
			for _, p := range []api.Phase{busy(1), busy(8), killed(1), killed(k.firm)} {
				p.Grants[1] = bits
				x := made(t, list{3: {Firm: 1, Desk: 4, Roles: 4}, 9: {Firm: k.firm, Desk: k.desk, Roles: 1, Off: true}})
				holdCall(t, x, p, call{3, api.DoCancel, 0, 9}, okIf(granted || k.sameFirm))
			}
		}
	}
}

// A grant is of one's own firm: neither that of the other's firm counts, nor
// that of a third.
func TestGrantsOfOtherFirmsOnly(t *testing.T) {
	for mine := range 8 {
		for theirs := range 8 {
			for _, bits := range []int{255, -1, 1 << mine, 1 << theirs} {
				var p api.Phase
				for f := range p.Grants {
					if f != mine {
						p.Grants[f] = bits
					}
				}
				l := list{0: {Firm: mine, Desk: 1, Roles: 7}, 1: {Firm: theirs, Desk: 1, Roles: 1}}
				hold(t, l, p, call{0, api.DoCancel, 0, 1}, okIf(mine == theirs))
				p.Grants[mine] = 1 << theirs
				hold(t, l, p, call{0, api.DoCancel, 0, 1}, api.OK)
			}
		}
	}
}

// A grant allows what it says, for each pair of firms, and nothing the other way
// round.
func TestAGrantHasADirection(t *testing.T) {
	for mine := range 8 {
		for theirs := range 8 {
			l := list{0: {Firm: mine, Roles: 4}, 31: {Firm: theirs, Desk: 15, Roles: 4}}
			p := grants(mine, 1<<theirs)
			hold(t, l, p, call{0, api.DoCancel, 0, 31}, api.OK)
			hold(t, l, p, call{31, api.DoCancel, 0, 0}, okIf(mine == theirs))
			for roles := 1; roles < 4; roles++ {
				hold(t, with(l, 0, api.Trader{Firm: mine, Roles: roles}), p, call{0, api.DoCancel, 0, 31}, api.ErrDenied)
			}
		}
	}
}

// That one firm sponsors a second, and that one a third, is no grant for the
// third.
func TestAGrantIsNotHandedOn(t *testing.T) {
	p := grants(1, 1<<2)
	p.Grants[2] = 1 << 3
	x := made(t, house())
	holdCall(t, x, p, call{2, api.DoCancel, 0, 6}, api.OK)
	holdCall(t, x, p, call{8, api.DoCancel, 0, 12}, api.OK)
	holdCall(t, x, p, call{2, api.DoCancel, 0, 12}, api.ErrDenied)
}

func TestCancelOfOnesOwn(t *testing.T) {
	for roles := 1; roles <= 15; roles++ {
		for n := range 32 {
			x := made(t, only(n, api.Trader{Firm: 2, Desk: 3, Roles: roles}))
			holdCall(t, x, api.Phase{}, call{n, api.DoCancel, 0, n}, api.OK)
			holdCall(t, x, busy(2), call{n, api.DoCancel, 0, n}, api.OK)
			holdCall(t, x, killed(2), call{n, api.DoCancel, 0, n}, api.OK)
			x.Off(n, true)
			holdCall(t, x, api.Phase{}, call{n, api.DoCancel, 0, n}, api.ErrDenied)
		}
	}
}

func TestCancelOfOneThatDoesNotExist(t *testing.T) {
	for roles := 1; roles <= 15; roles++ {
		x := made(t, only(6, api.Trader{Firm: 0, Roles: roles}))
		for _, other := range append(far(32), 0, 5, 7, 31) {
			holdCall(t, x, api.Phase{}, call{6, api.DoCancel, 0, other}, api.ErrNone)
			holdCall(t, x, grants(0, -1), call{6, api.DoCancel, 0, other}, api.ErrNone)
			holdCall(t, x, killed(0), call{6, api.DoCancel, 0, other}, api.ErrNone)
		}
	}
}

func TestCancelAsksForNoInstrument(t *testing.T) {
	x := made(t, house())
	for _, inst := range append(far(8), 0, 1, 2, 3, 4, 5, 6, 7) {
		holdCall(t, x, busy(1), call{1, api.DoCancel, inst, 0}, api.OK)
		holdCall(t, x, busy(1), call{0, api.DoCancel, inst, 0}, api.OK)
		holdCall(t, x, busy(1), call{0, api.DoCancel, inst, 1}, api.ErrDenied)
		holdCall(t, x, busy(1), call{0, api.DoCancel, inst, 4}, api.ErrNone)
	}
}

func TestCancelsInAHouse(t *testing.T) {
	for _, c := range []struct {
		n, other int
		want     api.Errno
	}{
		{0, 0, api.OK}, {0, 1, api.ErrDenied}, {0, 3, api.ErrDenied}, {0, 6, api.ErrDenied}, {0, 4, api.ErrNone},
		{1, 0, api.OK}, {1, 2, api.OK}, {1, 3, api.ErrDenied}, {1, 6, api.ErrDenied}, {1, 9, api.ErrNone},
		{2, 0, api.OK}, {2, 5, api.OK}, {2, 6, api.ErrDenied}, {2, 30, api.ErrDenied}, {2, 29, api.ErrNone},
		{5, 3, api.OK}, {5, 0, api.ErrDenied}, {5, 15, api.ErrDenied}, {5, 8, api.ErrDenied},
		{7, 6, api.OK}, {7, 8, api.ErrDenied}, {7, 0, api.ErrDenied}, {8, 6, api.OK}, {8, 3, api.ErrDenied},
		{15, 3, api.ErrDenied}, {15, 15, api.OK}, {30, 0, api.OK}, {30, 31, api.OK}, {31, 12, api.OK}, {31, 11, api.ErrNone},
	} {
		hold(t, house(), api.Phase{}, call{c.n, api.DoCancel, 0, c.other}, c.want)
	}
}
