package acct_test

import (
	"testing"

	"jobber/acct"
	"jobber/api"
)

// P15.3.

func TestTradesAtEachPlace(t *testing.T) {
	a, m := busy(t)
	for n := range 32 {
		for inst := range 8 {
			trades(t, a, &m, place{n, inst}, 1+(n+inst)%2, 1+n+40*inst, true)
			hold(t, a, m)
		}
	}
}

func TestTradesOnItsOwnAtEachPlace(t *testing.T) {
	for n := range 32 {
		for inst := range 8 {
			for _, side := range sides() {
				a, m := acct.New(), model{}
				trades(t, a, &m, place{n, inst}, side, 9, true)
				hold(t, a, m)
			}
		}
	}
}

func TestTradesNowhere(t *testing.T) {
	for _, side := range sides() {
		a, m := busy(t)
		for _, p := range nowhere() {
			for _, qty := range []int{1, 2, 5, mostQty} {
				trades(t, a, &m, p, side, qty, false)
			}
		}
		hold(t, a, m)
	}
}

func TestTradesNowhereLeavesAnEmptyAccountEmpty(t *testing.T) {
	a, m := acct.New(), model{}
	for _, p := range nowhere() {
		trades(t, a, &m, p, api.Buy, 1, false)
		trades(t, a, &m, p, api.Sell, 1, false)
	}
	hold(t, a, m)
}

func TestTradesByQuantitiesThatMayBe(t *testing.T) {
	for _, p := range places() {
		a, m := acct.New(), model{}
		for _, qty := range []int{1, 2, mostQty - 1, mostQty} {
			for _, side := range []int{api.Buy, api.Sell, api.Sell, api.Buy} {
				trades(t, a, &m, p, side, qty, true)
				hold(t, a, m)
			}
		}
		holdAt(t, a, p, 0, 0)
	}
}

func TestTradesByNoQuantities(t *testing.T) {
	for _, p := range places() {
		a, m := busy(t)
		for _, start := range []int{0, 1, -1, 2 * mostQty, -2 * mostQty} {
			traded(t, a, &m, p, start)
			for _, qty := range append(noQtys(1), -1, -5, -mostQty) {
				trades(t, a, &m, p, api.Buy, qty, false)
				trades(t, a, &m, p, api.Sell, qty, false)
			}
			hold(t, a, m)
		}
	}
}

func TestTradesByNoQuantitiesAtTheEnds(t *testing.T) {
	for _, pos := range []int{mostTick, -mostTick} {
		a, m := busy(t)
		p := place{5, 5}
		traded(t, a, &m, p, pos)
		for _, qty := range append(noQtys(1), -1, -5, -mostQty) {
			trades(t, a, &m, p, api.Buy, qty, false)
			trades(t, a, &m, p, api.Sell, qty, false)
		}
		hold(t, a, m)
	}
}

func TestTradesOfNoSide(t *testing.T) {
	a, m := busy(t)
	for _, p := range places() {
		for _, side := range noSides() {
			for _, qty := range []int{1, 2, mostQty} {
				trades(t, a, &m, p, side, qty, false)
			}
		}
	}
	hold(t, a, m)
}

func TestPositionsUpToTheMost(t *testing.T) {
	for _, p := range places()[:4] {
		a, m := busy(t)
		for _, room := range []int{mostQty, mostQty - 1, 3, 1} {
			traded(t, a, &m, p, mostTick-room)
			if room < mostQty {
				trades(t, a, &m, p, api.Buy, room+1, false)
				trades(t, a, &m, p, api.Buy, mostQty, false)
			}
			hold(t, a, m)
			trades(t, a, &m, p, api.Buy, room, true)
			hold(t, a, m)
			for _, more := range []int{1, 2, mostQty} {
				trades(t, a, &m, p, api.Buy, more, false)
			}
			hold(t, a, m)
		}
		trades(t, a, &m, p, api.Sell, 1, true)
		hold(t, a, m)
		trades(t, a, &m, p, api.Buy, 1, true)
		trades(t, a, &m, p, api.Buy, 1, false)
		trades(t, a, &m, p, api.Sell, mostQty, true)
		hold(t, a, m)
	}
}

func TestPositionsDownToTheLeast(t *testing.T) {
	for _, p := range places()[:4] {
		a, m := busy(t)
		for _, room := range []int{mostQty, mostQty - 1, 3, 1} {
			traded(t, a, &m, p, -mostTick+room)
			if room < mostQty {
				trades(t, a, &m, p, api.Sell, room+1, false)
				trades(t, a, &m, p, api.Sell, mostQty, false)
			}
			hold(t, a, m)
			trades(t, a, &m, p, api.Sell, room, true)
			hold(t, a, m)
			for _, more := range []int{1, 2, mostQty} {
				trades(t, a, &m, p, api.Sell, more, false)
			}
			hold(t, a, m)
		}
		trades(t, a, &m, p, api.Buy, 1, true)
		hold(t, a, m)
		trades(t, a, &m, p, api.Sell, 1, true)
		trades(t, a, &m, p, api.Sell, 1, false)
		trades(t, a, &m, p, api.Buy, mostQty, true)
		hold(t, a, m)
	}
}

func TestPositionsAcrossZero(t *testing.T) {
	for _, p := range places() {
		a, m := acct.New(), model{}
		for _, c := range [][2]int{{2, 3}, {1, 3}, {1, 4}, {2, 9}, {1, mostQty}, {2, mostQty}, {2, mostQty}} {
			trades(t, a, &m, p, c[0], c[1], true)
			hold(t, a, m)
		}
		holdAt(t, a, p, 0, -5-mostQty)
	}
}

func TestEachPositionHasItsOwnRoom(t *testing.T) {
	a, m := acct.New(), model{}
	traded(t, a, &m, place{9, 2}, mostTick)
	traded(t, a, &m, place{9, 3}, -mostTick)
	for n := range 32 {
		for inst := range 8 {
			trades(t, a, &m, place{n, inst}, api.Buy, 1, n != 9 || inst != 2)
			trades(t, a, &m, place{n, inst}, api.Sell, 2, n != 9 || inst != 3)
			hold(t, a, m)
		}
	}
}

func TestTradesDoesNotCareForWhatIsOpen(t *testing.T) {
	a, m := acct.New(), model{}
	p := place{3, 4}
	trades(t, a, &m, p, api.Sell, 5, true)
	hold(t, a, m)
	opened(t, a, &m, p, mostTick)
	for _, side := range sides() {
		trades(t, a, &m, p, side, mostQty, true)
		hold(t, a, m)
	}
}
