package allow_test

import (
	"math"
	"testing"

	"jobber/allow"
	"jobber/api"
	"jobber/tree"
)

// The limits and the bits are written out in these tests, so that they are not
// held against themselves: roles are 1 (trades), 2 (the desk's), 4 (the firm's)
// and 8 (the venue's).

// list is what a tree is made of.
type list = [32]api.Trader

// house holds a firm with two desks and each role but the venue's, a firm with
// desks of the same numbers, two firms of one trader each, the venue's, and
// places with nobody between them.
func house() list {
	return list{
		0:  {Firm: 1, Roles: 1, Insts: 255},
		1:  {Firm: 1, Roles: 3, Insts: 3},
		2:  {Firm: 1, Roles: 5, Insts: 255},
		3:  {Firm: 1, Desk: 4, Roles: 1, Insts: 128},
		5:  {Firm: 1, Desk: 4, Roles: 2, Insts: 255},
		6:  {Firm: 2, Roles: 1, Insts: 255},
		7:  {Firm: 2, Roles: 2, Insts: 1},
		8:  {Firm: 2, Desk: 4, Roles: 4},
		12: {Firm: 3, Roles: 1, Insts: 16},
		15: {Firm: 0, Desk: 4, Roles: 7, Insts: 254},
		30: {Firm: 7, Desk: 15, Roles: 8},
		31: {Firm: 7, Desk: 15, Roles: 9, Insts: 127},
	}
}

// off is the list with these traders suspended.
func off(l list, ns ...int) list {
	for _, n := range ns {
		l[n].Off = true
	}
	return l
}

// with is the list with this trader at place n.
func with(l list, n int, x api.Trader) list {
	l[n] = x
	return l
}

// only is the list with this trader at place n and nobody beside.
func only(n int, x api.Trader) list { return with(list{}, n, x) }

// roles is the list with other roles of trader n.
func roles(l list, n, roles int) list {
	l[n].Roles = roles
	return l
}

func killed(firms ...int) api.Phase {
	var p api.Phase
	for _, f := range firms {
		p.Killed[f] = true
	}
	return p
}

func halted(insts ...int) api.Phase {
	var p api.Phase
	for _, i := range insts {
		p.Halted[i] = true
	}
	return p
}

// grants is the phase where this firm sponsors these.
func grants(firm, bits int) api.Phase {
	var p api.Phase
	p.Grants[firm] = bits
	return p
}

// busy is the phase where every instrument is halted, and every firm but this
// one is killed and sponsors all; with firm 8, which isn't one, no firm is left
// out.
func busy(firm int) api.Phase {
	var p api.Phase
	for i := range 8 {
		p.Halted[i], p.Killed[i] = true, i != firm
		if i != firm {
			p.Grants[i] = 255
		}
	}
	return p
}

// far holds numbers that are those of nothing with this many places.
func far(places int) []int {
	all := []int{-1, places, -2, places + 1, math.MinInt, math.MinInt + 1, math.MaxInt - 1, math.MaxInt}
	for n := range places {
		for _, step := range []int{64, 128, 256, 1 << 16, 1 << 31, 1 << 32, 1 << 62} {
			all = append(all, n+step, n-step)
		}
		all = append(all, math.MinInt+n, ^n)
	}
	return all
}

// noActions holds numbers that are those of no action.
func noActions() []int { return append([]int{0}, far(5)...) }

func actions() []int { return []int{api.DoTrade, api.DoCancel, api.DoSuspend, api.DoVenue} }

// call is what is asked of May beside the tree and the phase.
type call struct{ n, do, inst, other int }

func made(t *testing.T, l list) *tree.Tree {
	t.Helper()
	x, n := tree.New(l)
	if x == nil || n != -1 {
		t.Fatalf("New refuses trader %d of %+v", n, l)
	}
	return x
}

func holdCall(t *testing.T, x *tree.Tree, p api.Phase, c call, want api.Errno) {
	t.Helper()
	if got := allow.May(x, p, c.n, c.do, c.inst, c.other); got != want {
		t.Errorf("%+v is %d, not %d; of %+v and %+v, in %+v", c, got, want, x.Trader(c.n), x.Trader(c.other), p)
	}
}

func hold(t *testing.T, l list, p api.Phase, c call, want api.Errno) {
	t.Helper()
	holdCall(t, made(t, l), p, c, want)
}

// holdTraders holds that a tree tells of these traders and of no others.
func holdTraders(t *testing.T, x *tree.Tree, l list) {
	t.Helper()
	for n, want := range l {
		if got := x.Trader(n); got != want || x.There(n) != (want.Roles != 0) {
			t.Errorf("trader %d is %+v, not %+v", n, got, want)
		}
	}
}

func okIf(ok bool) api.Errno {
	if ok {
		return api.OK
	}
	return api.ErrDenied
}

func TestTheNumbersOfTheActions(t *testing.T) {
	for i, do := range actions() {
		if do != i+1 {
			t.Error(i, do)
		}
	}
}

func TestTheChaptersExample(t *testing.T) {
	for _, do := range actions() {
		hold(t, house(), api.Phase{}, call{n: 4, do: do}, api.ErrNone)
	}
	cancel := call{n: 3, do: api.DoCancel, other: 5}
	hold(t, house(), api.Phase{}, cancel, api.ErrDenied)
	hold(t, roles(house(), 3, 1|2), api.Phase{}, cancel, api.OK)
}
