package acct_test

import (
	"testing"

	"jobber/acct"
)

// P15.1.

func TestNewAccountsAreAllZero(t *testing.T) {
	hold(t, acct.New(), model{})
}

func TestNewAccountsBesideUsedOnes(t *testing.T) {
	a, m := busy(t)
	b := acct.New()
	hold(t, b, model{})
	hold(t, a, m)
}

func TestTwoAccountsDoNotTouchEachOther(t *testing.T) {
	a, b := acct.New(), acct.New()
	var m, l model
	for _, p := range places() {
		opens(t, a, &m, p, 5, true)
		trades(t, a, &m, p, 1, 3, true)
		hold(t, b, l)
		opens(t, b, &l, p, 4, true)
		opens(t, b, &l, p, -3, true)
		opens(t, b, &l, p, -2, false)
		trades(t, b, &l, p, 2, 7, true)
		hold(t, a, m)
		hold(t, b, l)
	}
	hold(t, acct.New(), model{})
}

func TestAFullAccountLeavesRoomInAnother(t *testing.T) {
	p := place{4, 5}
	a, b := acct.New(), acct.New()
	var m, l model
	opened(t, a, &m, p, mostTick)
	traded(t, a, &m, p, -mostTick)
	opens(t, b, &l, p, 1, true)
	trades(t, b, &l, p, 2, 1, true)
	opens(t, a, &m, p, 1, false)
	trades(t, a, &m, p, 2, 1, false)
	hold(t, a, m)
	hold(t, b, l)
}
