package bucket_test

import (
	"testing"

	"jobber/api"
	"jobber/bucket"
)

// P17.1: what New makes, and what Left tells of it.

func bursts() []int { return []int{1, 2, 3, 10, 1000, mostBurst - 1, mostBurst} }

func rates() []int {
	return []int{1, 2, 3, 10, 1000, mostBurst, mostBurst + 1, 1 << 32, mostTick - 1, mostTick}
}

func holdNone(t *testing.T, burst, rate int) {
	t.Helper()
	if b, err := bucket.New(burst, rate); b != nil || err != api.ErrArg {
		t.Errorf("New(%d, %d) = %v, %d", burst, rate, b, err)
	}
}

func TestEachValidBurstAndRate(t *testing.T) {
	for _, burst := range bursts() {
		for _, rate := range rates() {
			holdStep(t, made(t, burst, rate), taken(0, burst-1))
		}
	}
}

func TestNoBurst(t *testing.T) {
	for _, rate := range rates() {
		for _, burst := range append(far(), -2, -1, 0, mostBurst+1, mostBurst+2, 2*mostBurst, mostTick) {
			holdNone(t, burst, rate)
		}
	}
}

func TestNoRate(t *testing.T) {
	for _, burst := range bursts() {
		for _, rate := range append(far(), -2, -1, 0, mostTick+1, mostTick+2, 2*mostTick) {
			// Some of what is far off for a burst is a rate.
			if rate < 1 || rate > mostTick {
				holdNone(t, burst, rate)
			}
		}
	}
}

func TestNeitherBurstNorRate(t *testing.T) {
	for _, burst := range []int{-1, 0, mostBurst + 1} {
		for _, rate := range []int{-1, 0, mostTick + 1} {
			holdNone(t, burst, rate)
		}
	}
}

func TestEachSmallBurstAndRate(t *testing.T) {
	for burst := -3; burst <= 20; burst++ {
		for rate := -3; rate <= 20; rate++ {
			if burst < 1 || rate < 1 {
				holdNone(t, burst, rate)
			} else {
				made(t, burst, rate)
			}
		}
	}
}

// All the tokens of a new bucket are there at once, and no more of them.
func TestANewBucketIsFull(t *testing.T) {
	for _, burst := range bursts() {
		for _, at := range []int{0, 7, mostTick} {
			b := emptied(t, burst, 10, at)
			holdSteps(t, b, none(at), none(at))
		}
	}
}

// The ticks of a bucket that was never taken from count from 0 on, if it is
// taken from there first.
func TestTheReferenceTimeOfANewBucketIs0(t *testing.T) {
	for _, rate := range []int{2, 3, 10, 1000, mostTick - 1} {
		holdRun(t, 1, rate, taken(0, 0), none(1), none(rate-1), taken(rate, 0), none(rate+1))
		holdRun(t, 2, rate, taken(0, 1), taken(rate-1, 0), taken(rate, 0), none(rate+1))
	}
	holdRun(t, 1, 1, taken(0, 0), none(0), taken(1, 0))
}

// From a later time on, if it is taken from then first.
func TestTheFirstTakeAtALaterTime(t *testing.T) {
	for _, at := range []int{1, 2, 9, 10, 11, 95, 1 << 33} {
		for _, rate := range []int{2, 3, 10, 1000, 1 << 34} {
			holdRun(t, 1, rate, taken(at, 0), none(at+1), none(at+rate-1), taken(at+rate, 0), none(at+rate))
			holdRun(t, 2, rate, taken(at, 1), taken(at+1, 0), none(at+rate-1), taken(at+rate, 0))
		}
	}
}

func TestLeftChangesNothing(t *testing.T) {
	asked, quiet := made(t, 5, 3), made(t, 5, 3)
	for now := range 60 {
		for range now%4 + 1 {
			for range 10 {
				asked.Left()
			}
			if asked.Take(now) != quiet.Take(now) {
				t.Fatal(now)
			}
		}
		holdLeft(t, asked, quiet.Left())
	}
}

// Left tells of the last Take: the tokens that have come since then are not yet
// there.
func TestLeftIsAsOfTheLastTake(t *testing.T) {
	b := emptied(t, 4, 10, 0)
	holdLeft(t, b, 0)
	holdSteps(t, b, taken(1000, 3))
	holdLeft(t, b, 3)
	holdSteps(t, b, taken(1001, 2), taken(1002, 1), taken(1003, 0), none(1004))
	holdLeft(t, b, 0)
}

func TestBucketsShareNothing(t *testing.T) {
	var all []*bucket.Bucket
	for range 4 {
		all = append(all, made(t, 3, 10))
	}
	all = append(all, made(t, 2, 7))
	holdSteps(t, all[0], taken(0, 2), taken(0, 1), taken(0, 0), none(0))
	for _, b := range all[1:4] {
		holdLeft(t, b, 3)
	}
	holdSteps(t, all[1], taken(95, 2), taken(96, 1))
	holdSteps(t, all[2], taken(4, 2), taken(5, 1), taken(5, 0), none(13), taken(14, 0))
	holdSteps(t, all[0], none(9), taken(10, 0))
	holdSteps(t, all[1], taken(104, 0), taken(105, 0))
	holdSteps(t, all[4], taken(6, 1), taken(6, 0), none(12), taken(13, 0))
	holdSteps(t, all[3], taken(0, 2), taken(0, 1), taken(0, 0), none(9), taken(10, 0))
}
