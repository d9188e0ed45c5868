package acct_test

import (
	"math/rand"
	"testing"

	"jobber/acct"
	"jobber/api"
)

// P15.5, and P15.2 to P15.4 on drawn calls.

// mayOpen is P15.2, word by word.
func (m *model) mayOpen(p place, qty int) bool {
	if p.n < 0 || p.n > 31 || p.inst < 0 || p.inst > 7 || qty < -mostQty || qty > mostQty {
		return false
	}
	would := m.open[p.n][p.inst] + qty
	return would >= 0 && would <= mostTick
}

// mayTrade is P15.3, word by word.
func (m *model) mayTrade(p place, side, qty int) bool {
	if p.n < 0 || p.n > 31 || p.inst < 0 || p.inst > 7 || qty < 1 || qty > mostQty {
		return false
	}
	switch would := m.pos[p.n][p.inst]; side {
	case 1:
		return would+qty <= mostTick
	case 2:
		return would-qty >= -mostTick
	}
	return false
}

// drawnQty is mostly small, sometimes at an edge, sometimes none.
func drawnQty(r *rand.Rand) int {
	switch r.Intn(8) {
	case 0:
		return noQtys(-mostQty)[r.Intn(20)]
	case 1:
		return []int{0, 1, -1, mostQty, mostQty - 1, -mostQty, 1 - mostQty, mostQty + 1, -mostQty - 1}[r.Intn(9)]
	case 2:
		return r.Intn(2*mostQty) - mostQty
	}
	return r.Intn(60) - 25
}

// drawnPlace is mostly one of few, so that calls meet each other there.
func drawnPlace(r *rand.Rand) place {
	switch r.Intn(8) {
	case 0:
		return place{r.Intn(36) - 2, r.Intn(12) - 2}
	case 1:
		return place{r.Intn(32), r.Intn(8)}
	}
	return place{r.Intn(3) * 15, r.Intn(3) * 3}
}

func TestDrawnCalls(t *testing.T) {
	r := rand.New(rand.NewSource(151))
	var done, refused [2]int
	count := func(which int, ok bool) {
		if ok {
			done[which]++
		} else {
			refused[which]++
		}
	}
	for range 60 {
		a, m := acct.New(), model{}
		for range 300 {
			p, qty := drawnPlace(r), drawnQty(r)
			if r.Intn(2) == 0 {
				ok := m.mayOpen(p, qty)
				opens(t, a, &m, p, qty, ok)
				count(0, ok)
			} else {
				side := 1 + r.Intn(2)
				if r.Intn(20) == 0 {
					side = noSides()[r.Intn(len(noSides()))]
				}
				ok := m.mayTrade(p, side, qty)
				trades(t, a, &m, p, side, qty, ok)
				count(1, ok)
			}
			hold(t, a, m)
		}
		stopIfFailed(t)
	}
	if min(done[0], done[1], refused[0], refused[1]) < 1000 {
		t.Error(done, refused)
	}
}

func TestDrawnCallsAtTheEnds(t *testing.T) {
	r := rand.New(rand.NewSource(152))
	for _, end := range []struct{ open, pos int }{{mostTick, mostTick}, {mostTick, -mostTick}} {
		a, m := acct.New(), model{}
		p := place{21, 6}
		opened(t, a, &m, p, end.open)
		traded(t, a, &m, p, end.pos)
		edges := 0
		for range 3000 {
			qty := r.Intn(9) - 4
			opens(t, a, &m, p, qty, m.mayOpen(p, qty))
			side := 1 + r.Intn(2)
			trades(t, a, &m, p, side, qty, m.mayTrade(p, side, qty))
			holdAt(t, a, p, m.open[21][6], m.pos[21][6])
			if m.open[21][6] == mostTick && (m.pos[21][6] == mostTick || m.pos[21][6] == -mostTick) {
				edges++
			}
			stopIfFailed(t)
			// So near the ends that they are met again and again.
			if m.open[21][6] < mostTick-5 {
				opened(t, a, &m, p, mostTick)
			}
			if m.pos[21][6] < mostTick-5 && m.pos[21][6] > 5-mostTick {
				traded(t, a, &m, p, end.pos)
			}
		}
		hold(t, a, m)
		if edges < 50 {
			t.Error(edges)
		}
	}
}

// sumOf is the sum of all positions in an instrument.
func sumOf(a *acct.Accts, inst int) int {
	sum := 0
	for n := range 32 {
		sum += a.Pos(n, inst)
	}
	return sum
}

func TestATradeLeavesTheSumOfBothPositions(t *testing.T) {
	for _, qty := range []int{1, 2, 7, mostQty} {
		for _, c := range [][2]int{{0, 31}, {31, 0}, {3, 4}, {17, 16}} {
			a, _ := busy(t)
			for inst := range 8 {
				buyer, seller := c[0], c[1]
				was, all := a.Pos(buyer, inst)+a.Pos(seller, inst), sumOf(a, inst)
				b := a.Pos(buyer, inst)
				if !a.Trades(buyer, inst, api.Buy, qty) || !a.Trades(seller, inst, api.Sell, qty) {
					t.Error("refused", c, inst, qty)
				}
				if now := a.Pos(buyer, inst) + a.Pos(seller, inst); now != was || sumOf(a, inst) != all {
					t.Errorf("%d and %d, %d of %d: %d, not %d", buyer, seller, qty, inst, now, was)
				}
				if a.Pos(buyer, inst) != b+qty {
					t.Errorf("the position of %d went from %d to %d", buyer, b, a.Pos(buyer, inst))
				}
			}
		}
	}
}

func TestATradeWithOneselfLeavesThePosition(t *testing.T) {
	a, m := busy(t)
	for _, p := range places() {
		trades(t, a, &m, p, api.Buy, 12, true)
		trades(t, a, &m, p, api.Sell, 12, true)
	}
	_, was := busy(t)
	if m != was {
		t.Error("the model is moved")
	}
	hold(t, a, was)
}

func TestDrawnTradesAddUpToZero(t *testing.T) {
	r := rand.New(rand.NewSource(153))
	for range 20 {
		a := acct.New()
		for range 400 {
			buyer, seller, inst, qty := r.Intn(32), r.Intn(32), r.Intn(8), 1+r.Intn(mostQty)
			was := a.Pos(buyer, inst) + a.Pos(seller, inst)
			if !a.Trades(buyer, inst, api.Buy, qty) || !a.Trades(seller, inst, api.Sell, qty) {
				t.Fatal("refused", buyer, seller, inst, qty)
			}
			if now := a.Pos(buyer, inst) + a.Pos(seller, inst); now != was {
				t.Fatalf("%d and %d, %d of %d: %d, not %d", buyer, seller, qty, inst, now, was)
			}
			for i := range 8 {
				if sum := sumOf(a, i); sum != 0 {
					t.Fatalf("the positions in %d add up to %d", i, sum)
				}
			}
		}
	}
}
