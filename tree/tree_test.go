package tree_test

import (
	"math"
	"testing"

	"jobber/api"
	"jobber/tree"
)

// The limits and the bits are written out in these tests, so that they are not
// held against themselves.

// list is what a tree is made of.
type list = [32]api.Trader

// house holds firms with several desks, desks of one number in several firms,
// desks with several traders and with one, traders alone in their firm, one
// whose Off is set, and places with nobody between them and behind.
func house() list {
	return list{
		0:  {Firm: 1, Desk: 0, Roles: 1, Insts: 255, Key: api.Sum{1}},
		1:  {Firm: 1, Desk: 0, Roles: 3, Insts: 3, Key: api.Sum{2}},
		2:  {Firm: 1, Desk: 1, Roles: 5, Insts: 255, Key: api.Sum{31: 3}},
		4:  {Firm: 2, Desk: 0, Roles: 1, Insts: 1, Key: api.Sum{4}},
		5:  {Firm: 2, Desk: 1, Roles: 4, Key: api.Sum{5}},
		6:  {Firm: 7, Desk: 15, Roles: 8},
		7:  {Firm: 3, Desk: 0, Roles: 2, Insts: 128, Off: true},
		9:  {Firm: 1, Desk: 1, Roles: 1, Insts: 7, Off: true},
		10: {Firm: 0, Desk: 0, Roles: 15, Insts: 255},
		15: {Firm: 2, Desk: 1, Roles: 1, Insts: 9},
		16: {Firm: 0, Desk: 1, Roles: 1},
		20: {Firm: 1, Desk: 15, Roles: 1, Insts: 2},
		30: {Firm: 2, Desk: 0, Roles: 1, Insts: 255},
		31: {Firm: 1, Desk: 1, Roles: 9, Insts: 128, Key: api.Sum{6}},
	}
}

// crowd holds a trader at every place, each another one.
func crowd() list {
	var l list
	for n := range l {
		l[n] = api.Trader{Firm: n % 8, Desk: n % 16, Roles: 1 + n%15, Insts: 8 * n, Off: n%3 == 0, Key: api.Sum{byte(n), 31: byte(255 - n)}}
	}
	return l
}

// only is the list with this trader at place n and nobody beside.
func only(n int, x api.Trader) list {
	var l list
	l[n] = x
	return l
}

func lists() []list {
	return []list{{}, house(), crowd(), only(0, house()[0]), only(31, house()[31]), only(13, house()[7])}
}

// beyond holds numbers that are those of no trader.
func beyond() []int {
	far := []int{-1, 32, 33, math.MinInt, math.MinInt + 1, math.MaxInt - 1, math.MaxInt}
	for n := range 32 {
		for _, step := range []int{32, 64, 128, 256, 1 << 16, 1 << 31, 1 << 32, 1 << 62} {
			far = append(far, n+step, n-step)
		}
		far = append(far, math.MinInt+n, ^n)
	}
	return far
}

func made(t *testing.T, l list) *tree.Tree {
	t.Helper()
	x, n := tree.New(l)
	if x == nil || n != -1 {
		t.Fatalf("New refuses trader %d of %+v", n, l)
	}
	return x
}

// holdTraders holds that a tree tells of these traders and of no others.
func holdTraders(t *testing.T, x *tree.Tree, l list) {
	t.Helper()
	for n, want := range l {
		if got := x.Trader(n); got != want {
			t.Errorf("Trader(%d) = %+v, not %+v", n, got, want)
		}
		if got := x.There(n); got != (want.Roles != 0) {
			t.Errorf("There(%d) = %t of %+v", n, got, want)
		}
	}
	for _, n := range []int{-1, 32} {
		if got := x.Trader(n); x.There(n) || got != (api.Trader{}) {
			t.Errorf("trader %d is there: %+v", n, got)
		}
	}
}

// holdSets holds the three sets of each trader against what P13.4 says of one
// trader and another.
func holdSets(t *testing.T, x *tree.Tree, l list) {
	t.Helper()
	for n, a := range l {
		var own, desk, firm uint64
		for i, b := range l {
			one := uint64(1) << i
			if a.Roles == 0 || b.Roles == 0 {
				continue
			}
			if i == n {
				own |= one
			}
			if b.Firm == a.Firm && b.Desk == a.Desk {
				desk |= one
			}
			if b.Firm == a.Firm {
				firm |= one
			}
		}
		holdSet(t, x, n, api.SOwn, own)
		holdSet(t, x, n, api.SDesk, desk)
		holdSet(t, x, n, api.SFirm, firm)
	}
}

func holdSet(t *testing.T, x *tree.Tree, n, scope int, want uint64) {
	t.Helper()
	if got := x.Set(n, scope); got != want {
		t.Errorf("Set(%d, %d) = %b, not %b", n, scope, got, want)
	}
}
