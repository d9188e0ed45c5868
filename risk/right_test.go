package risk_test

import (
	"math"
	"testing"

	"jobber/api"
	"jobber/risk"
)

// P16.1.

func holdRight(t *testing.T, l api.Limits, want bool) {
	t.Helper()
	if got := risk.Right(l); got != want {
		t.Errorf("Right(%+v) = %t", l, got)
	}
}

// valids holds limits that are valid: ordinary ones, the least, and the widest.
func valids() []api.Limits {
	return []api.Limits{{Qty: 5, Value: 50, Open: 8, Pos: 6}, {}, widest()}
}

func TestEachLimitHasItsRange(t *testing.T) {
	for _, base := range valids() {
		for _, f := range limits() {
			for _, n := range []int{0, 1, 2, 100, f.most / 2, f.most - 1, f.most} {
				l := base
				*f.of(&l) = n
				holdRight(t, l, true)
			}
			for _, n := range append(far(), -1, -2, -100, -f.most, f.most-math.MaxInt-2) {
				l := base
				*f.of(&l) = n
				holdRight(t, l, n >= 0 && n <= f.most)
			}
			if f.most == math.MaxInt {
				continue
			}
			for _, n := range []int{f.most + 1, f.most + 2, 2 * f.most, math.MaxInt} {
				l := base
				*f.of(&l) = n
				holdRight(t, l, false)
			}
		}
	}
}

// The most of one field is not that of another.
func TestTheRangesAreNotMixedUp(t *testing.T) {
	holdRight(t, api.Limits{Qty: mostQty + 1, Value: mostQty + 1, Open: mostQty + 1, Pos: mostQty + 1}, false)
	holdRight(t, api.Limits{Qty: mostQty, Value: mostTick + 1, Open: mostQty + 1, Pos: mostQty + 1}, true)
	holdRight(t, api.Limits{Qty: 0, Value: math.MaxInt, Open: mostTick, Pos: 0}, true)
	holdRight(t, api.Limits{Qty: mostQty, Value: 0, Open: 0, Pos: mostTick}, true)
}

func TestSeveralWrongLimits(t *testing.T) {
	for _, n := range []int{-1, -2, math.MinInt, math.MaxInt} {
		holdRight(t, all(n), false)
	}
	for i, f := range limits() {
		for _, g := range limits()[:i] {
			l := widest()
			*f.of(&l), *g.of(&l) = -1, -1
			holdRight(t, l, false)
		}
	}
}
