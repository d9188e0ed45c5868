package allow_test

import (
	"math/rand"
	"testing"

	"jobber/allow"
	"jobber/api"
	"jobber/tree"
)

// P14.2, and P14.1 on drawn trees and phases.

func drawList(r *rand.Rand) list {
	var l list
	firms, desks, empty := 1+r.Intn(8), 1+r.Intn(4), r.Intn(6)
	for n := range l {
		if r.Intn(10) >= empty {
			l[n] = api.Trader{Firm: r.Intn(firms), Desk: 5 * r.Intn(desks), Roles: 1 + r.Intn(15), Insts: r.Intn(256), Off: r.Intn(8) == 0}
			r.Read(l[n].Key[:])
		}
	}
	return l
}

func drawPhase(r *rand.Rand) api.Phase {
	var p api.Phase
	for i := range 8 {
		p.Halted[i], p.Killed[i] = r.Intn(4) == 0, r.Intn(8) == 0
		switch r.Intn(8) {
		case 0:
			p.Grants[i] = int(r.Uint64())
		case 1:
			p.Grants[i] = r.Intn(256) << 8
		default:
			p.Grants[i] = r.Intn(256) & r.Intn(256)
		}
	}
	return p
}

// drawCall is mostly one of what there is.
func drawCall(r *rand.Rand) call {
	c := call{r.Intn(32), 1 + r.Intn(4), r.Intn(8), r.Intn(32)}
	if r.Intn(8) == 0 {
		c.other = c.n
	}
	switch r.Intn(16) {
	case 0:
		c.n = r.Intn(36) - 2
	case 1:
		c.do = r.Intn(8) - 2
	case 2:
		c.inst = r.Intn(12) - 2
	case 3:
		c.other = r.Intn(36) - 2
	}
	return c
}

// eachDrawn calls f with many drawn trees and phases, and holds that neither
// has changed when it is done.
func eachDrawn(t *testing.T, seed int64, f func(r *rand.Rand, x *tree.Tree, l list, p *api.Phase)) {
	t.Helper()
	r := rand.New(rand.NewSource(seed))
	for range 300 {
		l, p := drawList(r), drawPhase(r)
		x, q := made(t, l), p
		f(r, x, l, &p)
		holdTraders(t, x, l)
		if p != q {
			t.Errorf("the phase is %+v, not %+v", p, q)
		}
	}
}

func there(l list, n int) bool { return n >= 0 && n < 32 && l[n].Roles != 0 }

// promised is P14.1, word by word.
func promised(l list, p api.Phase, c call) api.Errno {
	if !there(l, c.n) {
		return api.ErrNone
	}
	x := l[c.n]
	if x.Off || p.Killed[x.Firm] && c.do != 2 && c.do != 4 {
		return api.ErrDenied
	}
	switch c.do {
	case 1:
		return promisedTrade(x, p, c.inst)
	case 2, 3:
		if !there(l, c.other) {
			return api.ErrNone
		}
		if c.do == 2 {
			return okIf(promisedCancel(x, l[c.other], p, c))
		}
		return okIf(c.other != c.n && (x.Roles&8 != 0 || x.Roles&4 != 0 && l[c.other].Firm == x.Firm))
	case 4:
		return okIf(x.Roles&8 != 0)
	}
	return api.ErrArg
}

func promisedTrade(x api.Trader, p api.Phase, inst int) api.Errno {
	switch {
	case inst < 0 || inst > 7:
		return api.ErrArg
	case x.Roles&1 == 0 || x.Insts&(1<<inst) == 0:
		return api.ErrDenied
	case p.Halted[inst]:
		return api.ErrState
	}
	return api.OK
}

func promisedCancel(x, y api.Trader, p api.Phase, c call) bool {
	return c.other == c.n ||
		x.Roles&8 != 0 ||
		x.Roles&4 != 0 && y.Firm == x.Firm ||
		x.Roles&2 != 0 && y.Firm == x.Firm && y.Desk == x.Desk ||
		x.Roles&4 != 0 && p.Grants[x.Firm]&(1<<y.Firm) != 0
}

func TestDrawnCalls(t *testing.T) {
	told := map[api.Errno]int{}
	eachDrawn(t, 141, func(r *rand.Rand, x *tree.Tree, l list, p *api.Phase) {
		for range 400 {
			c := drawCall(r)
			want := promised(l, *p, c)
			told[want]++
			holdCall(t, x, *p, c, want)
		}
	})
	for _, err := range []api.Errno{api.OK, api.ErrArg, api.ErrNone, api.ErrDenied, api.ErrState} {
		if told[err] < 500 {
			t.Error(err, told[err])
		}
	}
}

// byRoles is what a call answers with each set of roles of its trader.
func byRoles(t *testing.T, l list, p api.Phase, c call) [16]api.Errno {
	t.Helper()
	got := [16]api.Errno{api.ErrNone}
	for mine := 1; mine <= 15; mine++ {
		got[mine] = allow.May(made(t, roles(l, c.n, mine)), p, c.n, c.do, c.inst, c.other)
	}
	return got
}

func TestMoreRolesNeverAllowLess(t *testing.T) {
	var gained, kept [5]int
	eachDrawn(t, 142, func(r *rand.Rand, _ *tree.Tree, l list, p *api.Phase) {
		for range 20 {
			c := drawCall(r)
			if !there(l, c.n) {
				continue
			}
			got := byRoles(t, l, *p, c)
			for few, err := range got {
				for more := range got {
					if few&^more != 0 || err != api.OK {
						continue
					}
					if got[more] != api.OK {
						t.Errorf("%+v is allowed with the roles %d, and %d with %d", c, few, got[more], more)
					}
					kept[c.do]++
				}
			}
			if c.do >= 1 && c.do <= 4 && got[1] != api.OK && got[15] == api.OK {
				gained[c.do]++
			}
		}
	})
	for _, do := range actions() {
		if kept[do] < 500 || do != api.DoTrade && gained[do] < 50 {
			t.Error(do, kept[do], gained[do])
		}
	}
}

// eachAcross calls f with drawn pairs of traders of two firms of which the first
// is not one of the venue's.
func eachAcross(t *testing.T, seed int64, f func(r *rand.Rand, l list, p api.Phase, n, other int)) {
	t.Helper()
	eachDrawn(t, seed, func(r *rand.Rand, _ *tree.Tree, l list, p *api.Phase) {
		for range 40 {
			n, other := r.Intn(32), r.Intn(32)
			if there(l, n) && there(l, other) && l[n].Firm != l[other].Firm && l[n].Roles < 8 {
				f(r, l, *p, n, other)
			}
		}
	})
}

func TestOnlyAGrantReachesAnotherFirm(t *testing.T) {
	reached, not := 0, 0
	eachAcross(t, 143, func(r *rand.Rand, l list, p api.Phase, n, other int) {
		mine, theirs := l[n].Firm, l[other].Firm
		cancel := call{n, api.DoCancel, r.Intn(8), other}
		hold(t, l, p, call{n, api.DoSuspend, r.Intn(8), other}, api.ErrDenied)
		got := allow.May(made(t, l), p, n, api.DoCancel, 0, other)
		switch granted := p.Grants[mine]>>theirs&1 == 1; {
		case got != api.OK:
			not++
		case !granted:
			t.Errorf("%+v is allowed without a grant, in %+v", cancel, p)
		default:
			reached++
		}
		p.Grants[mine] &^= 1 << theirs
		hold(t, l, p, cancel, api.ErrDenied)
		p.Grants[mine] |= 1 << theirs
		hold(t, l, p, cancel, okIf(l[n].Roles&4 != 0 && !l[n].Off))
		hold(t, l, p, call{n, api.DoSuspend, 0, other}, api.ErrDenied)
	})
	if reached < 50 || not < 500 {
		t.Error(reached, not)
	}
}

// With the grants of one's own firm as they are, nothing else of the other
// trader and of the phase makes a difference to a cancel for another firm.
func TestNothingButTheGrantsCountsInAnotherFirm(t *testing.T) {
	allowed := 0
	eachAcross(t, 144, func(r *rand.Rand, l list, p api.Phase, n, other int) {
		cancel := call{n, api.DoCancel, r.Intn(8), other}
		want := allow.May(made(t, l), p, n, api.DoCancel, 0, other)
		if want == api.OK {
			allowed++
		}
		for range 8 {
			m, q := drawList(r), drawPhase(r)
			m[n] = l[n]
			m[other] = api.Trader{Firm: l[other].Firm, Desk: r.Intn(16), Roles: 1 + r.Intn(15), Insts: r.Intn(256), Off: r.Intn(2) == 0}
			if r.Intn(2) == 0 {
				m[other].Desk = l[n].Desk
			}
			q.Grants[l[n].Firm] = p.Grants[l[n].Firm]
			hold(t, m, q, cancel, want)
			hold(t, m, q, call{n, api.DoSuspend, 0, other}, api.ErrDenied)
		}
	})
	if allowed < 50 {
		t.Error(allowed)
	}
}
