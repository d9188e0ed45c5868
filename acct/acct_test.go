package acct_test

import (
	"math"
	"testing"

	"jobber/acct"
	"jobber/api"
)

// The limits are written out in these tests, so that they are not held against
// themselves: there are 32 traders and 8 instruments, a quantity is up to
// 1 << 20, and an open quantity or a position up to 1 << 40.

const (
	mostQty  = 1 << 20
	mostTick = 1 << 40
)

// numbers holds a number for each trader in each instrument.
type numbers [32][8]int

// model is what accounts ought to hold.
type model struct{ open, pos numbers }

// place is that of a trader in an instrument.
type place struct{ n, inst int }

// places holds the corners and some between them.
func places() []place {
	return []place{{0, 0}, {0, 7}, {31, 0}, {31, 7}, {1, 2}, {2, 1}, {7, 7}, {8, 3}, {16, 4}, {30, 6}}
}

// far holds numbers that are those of nothing with this many places.
func far(places int) []int {
	all := []int{-1, places, -2, places + 1, 2 * places, math.MinInt, math.MinInt + 1, math.MaxInt - 1, math.MaxInt}
	for n := range places {
		for _, step := range []int{64, 128, 256, 1 << 16, 1 << 31, 1 << 32, 1 << 62} {
			all = append(all, n+step, n-step)
		}
		all = append(all, math.MinInt+n, ^n)
	}
	return all
}

// nowhere holds places with a number out of range, or both.
func nowhere() []place {
	var all []place
	for _, n := range far(32) {
		for _, inst := range []int{0, 1, 6, 7, n} {
			all = append(all, place{n, inst})
		}
	}
	for _, inst := range far(8) {
		for _, n := range []int{0, 1, 30, 31} {
			all = append(all, place{n, inst})
		}
	}
	// Beside each other in a row of numbers, they could be taken for one that is there.
	return append(all, place{-1, 8}, place{1, -8}, place{0, 8}, place{32, -1}, place{0, 255}, place{31, 8}, place{32, -256}, place{-1, -1}, place{32, 8})
}

// noQtys holds numbers that no quantity is, beyond the least and the most.
func noQtys(least int) []int {
	all := []int{mostQty + 1, mostQty + 2, 2 * mostQty, mostTick, math.MaxInt - 1, math.MaxInt,
		least - 1, least - 2, least - mostQty - 1, -mostTick, math.MinInt, math.MinInt + 1, math.MinInt + mostQty, math.MaxInt - mostQty}
	for _, n := range []int{1, 5, mostQty} {
		for _, step := range []int{1 << 22, 1 << 31, 1 << 32, 1 << 40, 1 << 62} {
			all = append(all, n+step, n-step)
		}
	}
	return all
}

// noSides holds numbers that are those of no side.
func noSides() []int {
	all := []int{0, 3, 4, -1, -2, math.MinInt, math.MinInt + 1, math.MinInt + 2, math.MaxInt - 1, math.MaxInt}
	for _, side := range []int{1, 2} {
		for _, step := range []int{4, 8, 16, 256, 1 << 31, 1 << 32, 1 << 62} {
			all = append(all, side+step, side-step)
		}
	}
	return all
}

func sides() []int { return []int{api.Buy, api.Sell} }

// holdAt holds what the accounts answer of one place.
func holdAt(t *testing.T, a *acct.Accts, p place, open, pos int) {
	t.Helper()
	if got := a.OpenAt(p.n, p.inst); got != open {
		t.Errorf("OpenAt(%d, %d) = %d, not %d", p.n, p.inst, got, open)
	}
	if got := a.Pos(p.n, p.inst); got != pos {
		t.Errorf("Pos(%d, %d) = %d, not %d", p.n, p.inst, got, pos)
	}
}

// hold holds all that the accounts answer of every trader in every instrument.
func hold(t *testing.T, a *acct.Accts, want model) {
	t.Helper()
	for n := range 32 {
		sum := 0
		for inst := range 8 {
			holdAt(t, a, place{n, inst}, want.open[n][inst], want.pos[n][inst])
			sum += want.open[n][inst]
		}
		if got := a.Open(n); got != sum {
			t.Errorf("Open(%d) = %d, not %d", n, got, sum)
		}
	}
}

// opens holds what one call of Opens answers, and brings the model along.
func opens(t *testing.T, a *acct.Accts, m *model, p place, qty int, want bool) {
	t.Helper()
	if got := a.Opens(p.n, p.inst, qty); got != want {
		t.Errorf("Opens(%d, %d, %d) = %t", p.n, p.inst, qty, got)
	}
	if want {
		m.open[p.n][p.inst] += qty
	}
}

// trades holds what one call of Trades answers, and brings the model along.
func trades(t *testing.T, a *acct.Accts, m *model, p place, side, qty int, want bool) {
	t.Helper()
	if got := a.Trades(p.n, p.inst, side, qty); got != want {
		t.Errorf("Trades(%d, %d, %d, %d) = %t", p.n, p.inst, side, qty, got)
	}
	if want && side == api.Buy {
		m.pos[p.n][p.inst] += qty
	}
	if want && side == api.Sell {
		m.pos[p.n][p.inst] -= qty
	}
}

// busy holds accounts with another open quantity and position at each place,
// and the model of them; some of both are 0.
func busy(t *testing.T) (*acct.Accts, model) {
	t.Helper()
	a, m := acct.New(), model{}
	for n := range 32 {
		for inst := range 8 {
			p, i := place{n, inst}, 8*n+inst
			opens(t, a, &m, p, i%7*100+i, true)
			if i%5 > 0 {
				trades(t, a, &m, p, 1+i%2, 1000+i, true)
			}
		}
	}
	hold(t, a, m)
	return a, m
}

// stopIfFailed keeps a test from going on for long behind a fault.
func stopIfFailed(t *testing.T) {
	t.Helper()
	if t.Failed() {
		t.FailNow()
	}
}

// steps holds by what a number is to be moved, in as few steps as may be.
func steps(by int) (count, step, last int) {
	if by < 0 {
		count, step, last = steps(-by)
		return count, -step, -last
	}
	return by / mostQty, mostQty, by % mostQty
}

// opened takes an open quantity to this number.
func opened(t *testing.T, a *acct.Accts, m *model, p place, to int) {
	t.Helper()
	count, step, last := steps(to - m.open[p.n][p.inst])
	for i := range count {
		if !a.Opens(p.n, p.inst, step) {
			t.Fatalf("Opens(%d, %d, %d) is refused the %d. time", p.n, p.inst, step, i)
		}
	}
	m.open[p.n][p.inst] += count * step
	opens(t, a, m, p, last, true)
	stopIfFailed(t)
}

// traded takes a position to this number.
func traded(t *testing.T, a *acct.Accts, m *model, p place, to int) {
	t.Helper()
	count, step, last := steps(to - m.pos[p.n][p.inst])
	side := api.Buy
	if step < 0 {
		side, step, last = api.Sell, -step, -last
	}
	for i := range count {
		if !a.Trades(p.n, p.inst, side, step) {
			t.Fatalf("Trades(%d, %d, %d, %d) is refused the %d. time", p.n, p.inst, side, step, i)
		}
	}
	if last > 0 {
		trades(t, a, m, p, side, last, true)
	}
	m.pos[p.n][p.inst] = to
	stopIfFailed(t)
}

func TestTheLimits(t *testing.T) {
	if api.MaxTrader != 32 || api.MaxInst != 8 || api.MaxQty != mostQty || api.MaxTick != mostTick || api.Buy != 1 || api.Sell != 2 {
		t.Error("the limits are others than these tests say")
	}
}

func TestTheChaptersExample(t *testing.T) {
	a := acct.New()
	for i, want := range []bool{true, true, false} {
		call := [][2]int{{2, 5}, {3, 4}, {2, -6}}[i]
		if got := a.Opens(1, call[0], call[1]); got != want {
			t.Error(i, got)
		}
	}
	if got := a.Open(1); got != 9 {
		t.Error(got)
	}
	if !a.Trades(1, 2, api.Sell, 3) || a.Pos(1, 2) != -3 {
		t.Error(a.Pos(1, 2))
	}
}
