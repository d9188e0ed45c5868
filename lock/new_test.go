package lock_test

import (
	"testing"

	"jobber/api"
	"jobber/lock"
)

// P18.1: what New makes.

func tries() []int { return []int{1, 2, 3, 10, 1000, mostTries - 1, mostTries} }

func ticks() []int {
	return []int{1, 2, 3, 10, 1000, mostTries, mostTries + 1, 1 << 32, mostTick - 1, mostTick}
}

func holdNone(t *testing.T, tries, ticks int) {
	t.Helper()
	if l, err := lock.New(tries, ticks); l != nil || err != api.ErrArg {
		t.Errorf("New(%d, %d) = %v, %d", tries, ticks, l, err)
	}
}

func TestEachValidTriesAndTicks(t *testing.T) {
	for _, tries := range tries() {
		for _, ticks := range ticks() {
			holdOpenAlways(t, made(t, tries, ticks))
		}
	}
}

func TestNoTries(t *testing.T) {
	for _, ticks := range ticks() {
		for _, tries := range append(far(), -2, -1, 0, mostTries+1, mostTries+2, 2*mostTries, mostTick) {
			holdNone(t, tries, ticks)
		}
	}
}

func TestNoTicks(t *testing.T) {
	for _, tries := range tries() {
		for _, ticks := range append(far(), -2, -1, 0, mostTick+1, mostTick+2, 2*mostTick) {
			// Some of what is far off for tries are ticks.
			if ticks < 1 || ticks > mostTick {
				holdNone(t, tries, ticks)
			}
		}
	}
}

func TestNeitherTriesNorTicks(t *testing.T) {
	for _, tries := range []int{-1, 0, mostTries + 1} {
		for _, ticks := range []int{-1, 0, mostTick + 1} {
			holdNone(t, tries, ticks)
		}
	}
}

func TestEachFewTriesAndTicks(t *testing.T) {
	for tries := -3; tries <= 20; tries++ {
		for ticks := -3; ticks <= 20; ticks++ {
			if tries < 1 || ticks < 1 {
				holdNone(t, tries, ticks)
			} else {
				closed(t, tries, ticks, 7)
			}
		}
	}
}

func TestLocksShareNothing(t *testing.T) {
	var all []*lock.Lock
	for range 4 {
		all = append(all, made(t, 2, 10))
	}
	all = append(all, made(t, 1, 100))
	fail(t, all[0], 2, 0, 3)
	for _, l := range all[1:] {
		holdWrong(t, l, 0)
		holdOpenAlways(t, l)
	}
	fail(t, all[1], 2, 5)
	fail(t, all[4], 1, 6)
	fail(t, all[2], 2, 7, 8)
	holdClosed(t, all[0], 13)
	holdOpenAlways(t, all[1])
	holdClosed(t, all[2], 18)
	holdOpenAlways(t, all[3])
	holdClosed(t, all[4], 106)
	all[0].Clear()
	for i, want := range []int{0, 1, 2, 0, 1} {
		holdWrong(t, all[i], want)
	}
	holdOpenAlways(t, all[0])
	holdClosed(t, all[2], 18)
	holdClosed(t, all[4], 106)
}
