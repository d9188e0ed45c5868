package acct_test

import (
	"testing"

	"jobber/acct"
)

// P15.4.

func TestNothingIsOpenNowhere(t *testing.T) {
	a, m := busy(t)
	for _, p := range nowhere() {
		holdAt(t, a, p, 0, 0)
	}
	for _, n := range far(32) {
		if got := a.Open(n); got != 0 {
			t.Errorf("Open(%d) = %d", n, got)
		}
	}
	hold(t, a, m)
}

func TestOpenIsTheSumOfAllInstruments(t *testing.T) {
	for n := range 32 {
		a, m := acct.New(), model{}
		sum := 0
		for inst := range 8 {
			opens(t, a, &m, place{n, inst}, 1<<inst, true)
			if sum += 1 << inst; a.Open(n) != sum {
				t.Errorf("Open(%d) = %d, not %d", n, a.Open(n), sum)
			}
		}
		for inst := range 8 {
			opens(t, a, &m, place{n, inst}, -1<<inst, true)
			if sum -= 1 << inst; a.Open(n) != sum {
				t.Errorf("Open(%d) = %d, not %d", n, a.Open(n), sum)
			}
		}
	}
}

func TestOpenIsNotAPosition(t *testing.T) {
	a, m := acct.New(), model{}
	for inst := range 8 {
		trades(t, a, &m, place{6, inst}, 1+inst%2, 100+inst, true)
	}
	if got := a.Open(6); got != 0 {
		t.Error(got)
	}
	opens(t, a, &m, place{6, 3}, 11, true)
	holdAt(t, a, place{6, 3}, 11, -103)
	holdAt(t, a, place{6, 4}, 0, 104)
	if got := a.Open(6); got != 11 {
		t.Error(got)
	}
}

func TestAskingChangesNothing(t *testing.T) {
	a, m := busy(t)
	for range 3 {
		hold(t, a, m)
	}
}
