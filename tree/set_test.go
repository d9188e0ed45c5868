package tree_test

import (
	"math"
	"testing"

	"jobber/api"
)

// P13.4.

func scopes() []int { return []int{api.SOwn, api.SDesk, api.SFirm} }

// scopesBeyond holds numbers that are no scopes, some of them like one in
// their lowest bits.
func scopesBeyond() []int {
	far := []int{0, 4, 5, -1, -2, -3, -4, 7, 8, math.MinInt, math.MinInt + 1, math.MaxInt - 1, math.MaxInt}
	for _, scope := range scopes() {
		far = append(far, scope+4, scope+8, scope+1<<8, scope+1<<16, scope+1<<31, scope+1<<32, scope-1<<32, math.MinInt+scope)
	}
	return far
}

// bits is the set of these traders.
func bits(traders ...int) uint64 {
	var set uint64
	for _, n := range traders {
		set += uint64(math.Pow(2, float64(n)))
	}
	return set
}

// The chapter's example.
func TestTheExample(t *testing.T) {
	x := made(t, list{{Firm: 1, Roles: 1}, {Firm: 1, Roles: 1}, {Firm: 1, Desk: 1, Roles: 1}})
	holdSet(t, x, 0, api.SDesk, 3)
	holdSet(t, x, 0, api.SFirm, 7)
	holdSet(t, x, 3, api.SOwn, 0)
}

func TestSetsOfEachTraderOfAHouse(t *testing.T) {
	x := made(t, house())
	one := []int{0, 1, 2, 9, 20, 31}
	two := []int{4, 5, 15, 30}
	for _, c := range []struct {
		n          int
		desk, firm []int
	}{
		{0, []int{0, 1}, one},
		{1, []int{0, 1}, one},
		{2, []int{2, 9, 31}, one},
		{9, []int{2, 9, 31}, one},
		{31, []int{2, 9, 31}, one},
		{20, []int{20}, one},
		{4, []int{4, 30}, two},
		{30, []int{4, 30}, two},
		{5, []int{5, 15}, two},
		{15, []int{5, 15}, two},
		{6, []int{6}, []int{6}},
		{7, []int{7}, []int{7}},
		{10, []int{10}, []int{10, 16}},
		{16, []int{16}, []int{10, 16}},
		{3, nil, nil}, {8, nil, nil}, {11, nil, nil}, {29, nil, nil},
	} {
		holdSet(t, x, c.n, api.SDesk, bits(c.desk...))
		holdSet(t, x, c.n, api.SFirm, bits(c.firm...))
	}
	for n, y := range house() {
		if y.Roles != 0 {
			holdSet(t, x, n, api.SOwn, bits(n))
		} else {
			holdSet(t, x, n, api.SOwn, 0)
		}
	}
}

func TestSetsOfEachList(t *testing.T) {
	for _, l := range lists() {
		holdSets(t, made(t, l), l)
	}
}

// Nobody is of firm 0 and desk 0 by standing at a place that is empty.
func TestSetsOfTheLeastFirmAndDesk(t *testing.T) {
	for n := range 32 {
		x := made(t, only(n, api.Trader{Roles: 1}))
		for _, scope := range scopes() {
			for i := range 32 {
				if i == n {
					holdSet(t, x, i, scope, bits(n))
				} else {
					holdSet(t, x, i, scope, 0)
				}
			}
		}
	}
}

func TestSetsOfAllTradersOfOneDesk(t *testing.T) {
	for _, y := range []api.Trader{{Roles: 1}, {Firm: 7, Desk: 15, Roles: 15, Insts: 255}} {
		var l list
		for n := range l {
			l[n] = y
		}
		x := made(t, l)
		for n := range l {
			holdSet(t, x, n, api.SOwn, bits(n))
			holdSet(t, x, n, api.SDesk, 1<<32-1)
			holdSet(t, x, n, api.SFirm, 1<<32-1)
		}
	}
}

// Each pair of a firm and a desk stands against each other one in some tree.
func TestSetsOfAnyTwoDesks(t *testing.T) {
	for a := range 8 * 16 {
		for b := range 8 * 16 {
			l := list{0: {Firm: a / 16, Desk: a % 16, Roles: 1}, 31: {Firm: b / 16, Desk: b % 16, Roles: 1}}
			x := made(t, l)
			desk, firm := bits(0), bits(0)
			if a == b {
				desk = bits(0, 31)
			}
			if a/16 == b/16 {
				firm = bits(0, 31)
			}
			holdSet(t, x, 0, api.SDesk, desk)
			holdSet(t, x, 0, api.SFirm, firm)
		}
	}
}

// The sets go by Firm and Desk alone.
func TestSetsDoNotGoByOtherFields(t *testing.T) {
	l := list{
		{Firm: 4, Desk: 2, Roles: 1, Insts: 1},
		{Firm: 4, Desk: 2, Roles: 14, Insts: 254, Off: true, Key: api.Sum{9}},
		{Firm: 4, Desk: 3, Roles: 1, Insts: 1},
		{Firm: 5, Desk: 2, Roles: 1, Insts: 1},
	}
	x := made(t, l)
	for _, n := range []int{0, 1} {
		holdSet(t, x, n, api.SDesk, bits(0, 1))
		holdSet(t, x, n, api.SFirm, bits(0, 1, 2))
	}
}

func TestSetsOfOneWhoseOffIsSet(t *testing.T) {
	for n := range 32 {
		l := house()
		x := made(t, l)
		x.Off(n, true)
		holdSets(t, x, l)
	}
}

func TestSetOfANumberThatIsNoScope(t *testing.T) {
	for _, l := range lists() {
		x := made(t, l)
		for n := -1; n <= 32; n++ {
			for _, scope := range scopesBeyond() {
				holdSet(t, x, n, scope, 0)
			}
		}
	}
}

func TestSetOfANumberThatIsNoTrader(t *testing.T) {
	for _, l := range lists() {
		x := made(t, l)
		for _, n := range beyond() {
			for _, scope := range append(scopes(), scopesBeyond()...) {
				holdSet(t, x, n, scope, 0)
			}
		}
	}
}
