package tree_test

import (
	"testing"

	"jobber/api"
	"jobber/tree"
)

// P13.3.

func holdOff(t *testing.T, x *tree.Tree, n int, off, want bool) {
	t.Helper()
	if got := x.Off(n, off); got != want {
		t.Errorf("Off(%d, %t) = %t", n, off, got)
	}
}

func TestNobodyIsBeyondTheLastTrader(t *testing.T) {
	for _, l := range lists() {
		x := made(t, l)
		for _, n := range beyond() {
			if x.There(n) {
				t.Errorf("trader %d exists", n)
			}
			if got := x.Trader(n); got != (api.Trader{}) {
				t.Errorf("Trader(%d) = %+v", n, got)
			}
			holdOff(t, x, n, true, false)
			holdOff(t, x, n, false, false)
		}
		holdTraders(t, x, l)
	}
}

func TestThereByEachRole(t *testing.T) {
	for roles := 1; roles <= 15; roles++ {
		for n := range 32 {
			x := made(t, only(n, api.Trader{Roles: roles}))
			for i := range 32 {
				if got := x.There(i); got != (i == n) {
					t.Errorf("There(%d) = %t, of %d with roles %d alone", i, got, n, roles)
				}
			}
		}
	}
}

func TestOffOfEachTrader(t *testing.T) {
	for _, l := range lists() {
		for n := range 32 {
			x, want := made(t, l), l
			for _, off := range []bool{true, true, false, false, true} {
				holdOff(t, x, n, off, l[n].Roles != 0)
				want[n].Off = off && l[n].Roles != 0
				holdTraders(t, x, want)
				holdSets(t, x, want)
			}
		}
	}
}

// A trader that does not exist stays one, so that its Off can't make it other
// than zero.
func TestOffOfOneThatDoesNotExist(t *testing.T) {
	l := house()
	x := made(t, l)
	for _, n := range []int{3, 8, 29, -1, 32} {
		for _, off := range []bool{true, false} {
			holdOff(t, x, n, off, false)
			if x.There(n) || x.Trader(n) != (api.Trader{}) {
				t.Errorf("trader %d exists", n)
			}
			holdTraders(t, x, l)
		}
	}
}

func TestOffThatCameWithTheTrader(t *testing.T) {
	l := house()
	x := made(t, l)
	if !x.There(7) || !x.Trader(7).Off || x.Trader(6).Off {
		t.Errorf("%+v, %+v", x.Trader(7), x.Trader(6))
	}
	holdOff(t, x, 7, false, true)
	l[7].Off = false
	holdTraders(t, x, l)
	holdOff(t, x, 7, true, true)
	holdTraders(t, x, house())
}

func TestOffOfManyTogether(t *testing.T) {
	for _, l := range lists() {
		x, want := made(t, l), l
		for _, off := range []bool{true, false, true} {
			for n := range l {
				holdOff(t, x, n, off, l[n].Roles != 0)
				want[n].Off = off && l[n].Roles != 0
			}
			holdTraders(t, x, want)
			holdSets(t, x, want)
		}
	}
}

func TestATraderThatWasAnsweredIsACopy(t *testing.T) {
	x := made(t, house())
	got := x.Trader(2)
	got.Off, got.Firm, got.Roles, got.Key[0] = true, 5, 0, 9
	holdTraders(t, x, house())
	got = x.Trader(2)
	holdOff(t, x, 2, true, true)
	if got != house()[2] {
		t.Errorf("%+v", got)
	}
}
