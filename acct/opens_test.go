package acct_test

import (
	"testing"

	"jobber/acct"
)

// P15.2.

func TestOpensAtEachPlace(t *testing.T) {
	a, m := busy(t)
	for n := range 32 {
		for inst := range 8 {
			opens(t, a, &m, place{n, inst}, 1+n+40*inst, true)
			hold(t, a, m)
		}
	}
}

func TestOpensOnItsOwnAtEachPlace(t *testing.T) {
	for n := range 32 {
		for inst := range 8 {
			a, m := acct.New(), model{}
			opens(t, a, &m, place{n, inst}, 9, true)
			hold(t, a, m)
			opens(t, a, &m, place{n, inst}, -4, true)
			hold(t, a, m)
		}
	}
}

func TestOpensNowhere(t *testing.T) {
	a, m := busy(t)
	for _, p := range nowhere() {
		for _, qty := range []int{0, 1, -1, 5, mostQty, -mostQty} {
			opens(t, a, &m, p, qty, false)
		}
	}
	hold(t, a, m)
}

func TestOpensNowhereLeavesAnEmptyAccountEmpty(t *testing.T) {
	a, m := acct.New(), model{}
	for _, p := range nowhere() {
		opens(t, a, &m, p, 1, false)
	}
	hold(t, a, m)
}

func TestOpensByQuantitiesThatMayBe(t *testing.T) {
	for _, p := range places() {
		a, m := acct.New(), model{}
		for _, qty := range []int{0, 1, 0, -1, 0, mostQty, 0, -mostQty, mostQty - 1, 1, mostQty, mostQty, -mostQty, -mostQty, -mostQty + 1, -1} {
			opens(t, a, &m, p, qty, true)
			hold(t, a, m)
		}
		holdAt(t, a, p, 0, 0)
	}
}

func TestOpensByNoQuantities(t *testing.T) {
	for _, p := range places() {
		a, m := busy(t)
		for _, start := range []int{0, 1, mostQty, 4 * mostQty} {
			opened(t, a, &m, p, start)
			for _, qty := range noQtys(-mostQty) {
				opens(t, a, &m, p, qty, false)
			}
			hold(t, a, m)
		}
	}
}

func TestOpensByNoQuantitiesWhereTheSumCouldBe(t *testing.T) {
	for _, p := range places()[:4] {
		a, m := busy(t)
		opened(t, a, &m, p, mostTick)
		for _, qty := range noQtys(-mostQty) {
			opens(t, a, &m, p, qty, false)
		}
		hold(t, a, m)
	}
}

func TestOpenQuantitiesDownToZero(t *testing.T) {
	for _, p := range places() {
		for _, start := range []int{0, 1, 2, 5, mostQty - 1} {
			a, m := busy(t)
			opened(t, a, &m, p, start)
			for _, less := range []int{start + 1, start + 2, mostQty} {
				opens(t, a, &m, p, -less, false)
				hold(t, a, m)
			}
			opens(t, a, &m, p, -start, true)
			opens(t, a, &m, p, -1, false)
			opens(t, a, &m, p, 0, true)
			hold(t, a, m)
			holdAt(t, a, p, 0, m.pos[p.n][p.inst])
			opens(t, a, &m, p, 3, true)
			hold(t, a, m)
		}
	}
}

func TestOpenQuantitiesUpToTheMost(t *testing.T) {
	for _, p := range places()[:4] {
		a, m := busy(t)
		for _, room := range []int{mostQty, mostQty - 1, 3, 1} {
			opened(t, a, &m, p, mostTick-room)
			for _, more := range []int{room + 1, room + 2, max(mostQty, room+1)} {
				opens(t, a, &m, p, more, false)
				hold(t, a, m)
			}
			opens(t, a, &m, p, room, true)
			hold(t, a, m)
			for _, more := range []int{1, 2, mostQty} {
				opens(t, a, &m, p, more, false)
			}
			opens(t, a, &m, p, 0, true)
			hold(t, a, m)
		}
		opens(t, a, &m, p, -mostQty, true)
		opens(t, a, &m, p, mostQty, true)
		opens(t, a, &m, p, 1, false)
		hold(t, a, m)
	}
}

func TestEachInstrumentHasItsOwnRoom(t *testing.T) {
	a, m := acct.New(), model{}
	for inst := range 8 {
		p := place{9, inst}
		opens(t, a, &m, p, -1, false)
		opened(t, a, &m, p, mostTick)
		opens(t, a, &m, p, 1, false)
		hold(t, a, m)
	}
	if got := a.Open(9); got != 8*mostTick {
		t.Error(got)
	}
	for inst := range 8 {
		opens(t, a, &m, place{9, inst}, -1, true)
	}
	hold(t, a, m)
}

func TestEachTraderHasItsOwnRoom(t *testing.T) {
	a, m := acct.New(), model{}
	opened(t, a, &m, place{9, 2}, mostTick)
	for n := range 32 {
		opens(t, a, &m, place{n, 2}, 1, n != 9)
	}
	hold(t, a, m)
}

func TestOpensTakesNothingOfAnother(t *testing.T) {
	a, m := acct.New(), model{}
	opens(t, a, &m, place{1, 2}, 5, true)
	opens(t, a, &m, place{1, 3}, -5, false)
	opens(t, a, &m, place{2, 2}, -5, false)
	hold(t, a, m)
}

func TestOpensDoesNotCareForThePosition(t *testing.T) {
	for _, pos := range []int{mostTick, -mostTick} {
		a, m := acct.New(), model{}
		p := place{3, 4}
		traded(t, a, &m, p, pos)
		opens(t, a, &m, p, -1, false)
		opens(t, a, &m, p, 1, true)
		opens(t, a, &m, p, mostQty, true)
		hold(t, a, m)
	}
}
