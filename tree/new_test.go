package tree_test

import (
	"testing"

	"jobber/api"
	"jobber/tree"
)

// P13.2.

// bads holds traders that are bad each in one way, of each field or byte.
func bads() []api.Trader {
	all := []api.Trader{
		{Firm: 1}, {Firm: 7}, {Desk: 1}, {Desk: 15}, {Insts: 1}, {Insts: 128}, {Insts: 255}, {Off: true},
		{Firm: 1, Desk: 1, Insts: 1, Off: true, Key: api.Sum{1}},
	}
	for i := range 32 {
		for _, b := range []byte{1, 128, 255} {
			x := api.Trader{}
			x.Key[i] = b
			all = append(all, x)
		}
	}
	for _, f := range fields() {
		for _, n := range []int{-1, f.most + 1, -256, 256, 1 << 32, -1 << 63} {
			all = append(all, f.with(api.Trader{Roles: 1}, n), f.with(house()[1], n))
			if n != 0 {
				all = append(all, f.with(api.Trader{}, n))
			}
		}
	}
	return all
}

func holdRefused(t *testing.T, l list, at int) {
	t.Helper()
	if x, n := tree.New(l); x != nil || n != at {
		t.Errorf("New tells %d, not %d, of %+v; a tree: %t", n, at, l, x != nil)
	}
}

func TestNewKeepsTheTraders(t *testing.T) {
	for _, l := range lists() {
		holdTraders(t, made(t, l), l)
	}
}

func TestNewOfOneTrader(t *testing.T) {
	for n := range 32 {
		for _, x := range append(corners(), house()[1]) {
			if x.Roles == 0 {
				continue
			}
			l := only(n, x)
			holdTraders(t, made(t, l), l)
		}
	}
}

func TestNewOfEachPlaceEmptyAmongMany(t *testing.T) {
	for n := range 32 {
		l := crowd()
		l[n] = api.Trader{}
		holdTraders(t, made(t, l), l)
	}
}

func TestNewOfEachSetOfRoles(t *testing.T) {
	for roles := 1; roles <= 15; roles++ {
		l := only(3, api.Trader{Roles: roles})
		holdTraders(t, made(t, l), l)
	}
}

func TestNewOfOneBadTrader(t *testing.T) {
	for _, l := range lists() {
		for _, bad := range bads() {
			for n := range 32 {
				l := l
				l[n] = bad
				holdRefused(t, l, n)
			}
		}
	}
}

func TestNewTellsTheFirstOfTwoBadTraders(t *testing.T) {
	few := []api.Trader{{Firm: 1}, {Key: api.Sum{31: 1}}, {Off: true}, {Roles: 16}, {Roles: -1}, {Roles: 1, Firm: 8}, {Roles: 1, Insts: -1}}
	for _, l := range lists() {
		for first := range 32 {
			for second := first + 1; second < 32; second++ {
				for i, bad := range few {
					l := l
					l[first], l[second] = bad, few[(i+first+second)%len(few)]
					holdRefused(t, l, first)
				}
			}
		}
	}
}

func TestNewOfNothingButBadTraders(t *testing.T) {
	for _, bad := range bads() {
		var l list
		for n := range l {
			l[n] = bad
		}
		holdRefused(t, l, 0)
	}
}

func TestNewIsNotTouchedByTheListBehindTheCall(t *testing.T) {
	for _, want := range lists() {
		l := want
		x := made(t, l)
		for n := range l {
			l[n] = api.Trader{Firm: 6, Desk: 6, Roles: 6, Insts: 6, Off: true, Key: api.Sum{6}}
		}
		holdTraders(t, x, want)
		holdSets(t, x, want)
	}
}

func TestNewLeavesTheListAsItIs(t *testing.T) {
	l := house()
	x := made(t, l)
	for n := range l {
		x.Off(n, !l[n].Off)
	}
	if l != house() {
		t.Errorf("%+v", l)
	}
	holdTraders(t, made(t, l), house())
}
