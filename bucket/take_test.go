package bucket_test

import (
	"math"
	"testing"

	"jobber/bucket"
)

// P17.2: the edges of what a Take adds and takes.

func TestAtTheEndsOfTime(t *testing.T) {
	for _, burst := range []int{1, 2, mostBurst - 1, mostBurst} {
		for _, rate := range []int{1, 2, mostTick - 1, mostTick} {
			holdStep(t, made(t, burst, rate), taken(0, burst-1))
			holdSteps(t, made(t, burst, rate), taken(mostTick, burst-1))
			b := emptied(t, burst, rate, 0)
			holdSteps(t, b, none(0))
			come := min(mostTick/rate, burst)
			holdSteps(t, b, taken(mostTick, come-1))
			for left := come - 2; left >= 0; left-- {
				if !b.Take(mostTick) || b.Left() != left {
					t.Fatal(burst, rate, left, b.Left())
				}
			}
			holdSteps(t, b, none(mostTick), none(0), none(mostTick))
			holdSteps(t, emptied(t, burst, rate, mostTick), none(mostTick), none(mostTick-1), none(0))
		}
	}
	holdRun(t, 1, mostTick, taken(0, 0), none(1), none(mostTick-1), taken(mostTick, 0), none(mostTick))
	holdRun(t, 1, mostTick, taken(1, 0), none(mostTick))
	holdRun(t, 1, mostTick-1, taken(1, 0), none(mostTick-1), taken(mostTick, 0))
	holdRun(t, 1, 1, taken(mostTick-1, 0), none(mostTick-1), taken(mostTick, 0), none(mostTick))
}

func TestAroundTheTickOfAToken(t *testing.T) {
	for _, rate := range []int{2, 3, 10, 1000, 1 << 33} {
		for _, burst := range []int{1, 2, 50} {
			for _, at := range []int{0, 1, 77} {
				holdSteps(t, emptied(t, burst, rate, at), none(at+rate-1))
				holdSteps(t, emptied(t, burst, rate, at), taken(at+rate, 0))
				holdSteps(t, emptied(t, burst, rate, at), taken(at+rate+1, 0))
				holdSteps(t, emptied(t, burst, rate, at), none(at+rate-1), taken(at+rate, 0), none(at+rate+1))
			}
		}
	}
}

// At each tick by itself, so many tokens have come as whole rates have passed.
func TestAfterEachNumberOfTicks(t *testing.T) {
	for _, burst := range []int{1, 2, 3, 7} {
		for _, rate := range []int{1, 2, 3, 10} {
			for at := range 3 {
				for passed := range rate * (burst + 3) {
					b := emptied(t, burst, rate, at)
					come := min(passed/rate, burst)
					if come == 0 {
						holdStep(t, b, none(at+passed))
					} else {
						holdStep(t, b, taken(at+passed, come-1))
					}
				}
			}
		}
	}
}

// What comes is added to what is there.
func TestTokensComeOnTopOfThoseLeft(t *testing.T) {
	holdRun(t, 5, 10, taken(0, 4), taken(0, 3), taken(0, 2), taken(9, 1), taken(20, 2), taken(29, 1), taken(30, 1))
	holdRun(t, 5, 10, taken(0, 4), taken(0, 3), taken(0, 2), taken(29, 3))
	holdRun(t, 5, 10, taken(0, 4), taken(0, 3), taken(0, 2), taken(30, 4))
	holdRun(t, 5, 10, taken(0, 4), taken(0, 3), taken(0, 2), taken(40, 4))
	holdRun(t, 5, 10, taken(0, 4), taken(0, 3), taken(0, 2), taken(19, 2))
}

// Many rates at once: just as many as fill the bucket, more, and fewer.
func TestManyRatesAtOnce(t *testing.T) {
	for _, burst := range []int{2, 3, 50, 1 << 16, mostBurst} {
		for _, rate := range []int{1, 2, 10, 1 << 16} {
			for _, over := range []int{0, rate - 1} {
				full := burst * rate
				holdSteps(t, emptied(t, burst, rate, 3), taken(3+full-rate+over, burst-2))
				holdSteps(t, emptied(t, burst, rate, 3), taken(3+full+over, burst-1))
				holdSteps(t, emptied(t, burst, rate, 3), taken(3+full+rate+over, burst-1))
				holdSteps(t, emptied(t, burst, rate, 3), taken(mostTick-over, burst-1))
			}
		}
	}
}

func TestTheTicksLeftOverStay(t *testing.T) {
	for _, over := range []int{0, 1, 4, 9} {
		b := emptied(t, 5, 10, 0)
		holdSteps(t, b, taken(30+over, 2), taken(30+over, 1), taken(30+over, 0))
		holdSteps(t, b, none(30+over), none(39), taken(40, 0), none(40))
	}
	for _, rate := range []int{7, 1000, 1 << 33} {
		for _, over := range []int{1, rate / 2, rate - 1} {
			// With tokens left behind it, and with none.
			b := emptied(t, 4, rate, 5)
			holdSteps(t, b, taken(5+2*rate+over, 1), taken(5+3*rate, 1))
			b = emptied(t, 4, rate, 5)
			holdSteps(t, b, taken(5+rate+over, 0), none(5+2*rate-1), taken(5+2*rate, 0))
		}
	}
}

func TestTheTicksLeftOverOfAFullBucketGo(t *testing.T) {
	for _, over := range []int{0, 1, 4, 9} {
		for _, at := range []int{50 + over, 60 + over, 570 + over} {
			// The ticks over would bring the next token to at-over+10.
			b := emptied(t, 5, 10, 0)
			holdSteps(t, b, taken(at, 4), taken(at, 3), taken(at, 2), taken(at, 1), taken(at, 0))
			holdSteps(t, b, none(at), none(at-over+9), none(at+9), taken(at+10, 0), none(at+10))
		}
	}
	// Filled up by one token, beside those that are there.
	holdRun(t, 2, 10, taken(0, 1), taken(19, 1), taken(19, 0), none(20), none(28), taken(29, 0))
	holdRun(t, 2, 10, taken(0, 1), taken(10, 1), taken(10, 0), none(19), taken(20, 0))
}

// No token has come to a bucket that isn't filled: its ticks stay, too.
func TestTheTicksBelowOneRateStay(t *testing.T) {
	holdRun(t, 3, 10, taken(0, 2), taken(4, 1), taken(7, 0), none(9), taken(10, 0), none(10))
	b := emptied(t, 3, 1000, 0)
	for now := range 1000 {
		holdStep(t, b, none(now))
	}
	holdSteps(t, b, taken(1000, 0), none(1000))
}

func TestAFullBucketTakenFromLater(t *testing.T) {
	for _, at := range []int{1, 9, 10, 15, 95, 1 << 33, mostTick - 20} {
		holdRun(t, 2, 10, taken(at, 1), taken(at+1, 0), none(at+9), taken(at+10, 0), none(at+19), taken(at+20, 0))
	}
}

func TestAFullBucketTakenFromAtItsReferenceTime(t *testing.T) {
	holdRun(t, 2, 10, taken(0, 1), taken(1, 0), none(9), taken(10, 0), none(19), taken(20, 0))
}

// A bucket is full only ahead of its first Take, or by the ticks of that very
// Take: so earlier than its reference time is none but below 0.
func TestAFullBucketTakenFromEarlier(t *testing.T) {
	for _, early := range []int{-1, -5, -10, -1000, -mostTick, math.MinInt} {
		holdRun(t, 2, 10, taken(early, 1), taken(1, 0), none(9), taken(10, 0), none(19), taken(20, 0))
	}
}

func TestAnEarlierTimeBringsNothing(t *testing.T) {
	// With tokens left, they are taken, and the reference time stays.
	holdRun(t, 2, 10, taken(50, 1), taken(40, 0), none(50), none(59), taken(60, 0), none(60))
	holdRun(t, 3, 10, taken(50, 2), taken(0, 1), taken(49, 0), none(59), taken(60, 0))
	holdRun(t, 3, 10, taken(50, 2), taken(0, 1), taken(75, 2), taken(20, 1), taken(74, 0), none(84), taken(85, 0))
	// With none, nothing comes, and the reference time stays.
	for _, early := range []int{0, 1, 39, 40, 49} {
		b := emptied(t, 2, 10, 50)
		holdSteps(t, b, none(early), none(50), none(early), none(59), none(early), taken(60, 0), none(early), none(69), taken(70, 0))
	}
	// Later than the reference time, but earlier than the Take before.
	holdRun(t, 4, 10, taken(0, 3), taken(0, 2), taken(0, 1), taken(0, 0), taken(19, 0), none(12), none(10), none(18), taken(20, 0))
	holdRun(t, 2, 10, taken(50, 1), taken(59, 0), none(55), none(51), taken(60, 0))
}

func TestAnEmptyBucketAskedManyTimes(t *testing.T) {
	for _, burst := range []int{1, 2, 9} {
		b := emptied(t, burst, 50, 7)
		for now := 7; now < 507; now++ {
			if now > 7 && (now-7)%50 == 0 {
				holdStep(t, b, taken(now, 0))
			}
			for range 3 {
				holdStep(t, b, none(now))
			}
		}
	}
}

// All calls end without a panic, and what is counted stays within its bounds.
func TestOtherTimes(t *testing.T) {
	times := append(far(), -1, mostTick+1, -mostTick)
	for _, burst := range []int{1, 2, 1000, mostBurst} {
		for _, rate := range []int{1, 10, mostTick} {
			for _, first := range times {
				b, _ := bucket.New(burst, rate)
				left := burst
				for _, now := range append([]int{first}, times...) {
					ok := b.Take(now)
					if got := b.Left(); got < 0 || got > burst || ok && got == burst || !ok && got > left {
						t.Fatal(burst, rate, first, now, ok, got)
					}
					left = b.Left()
				}
			}
		}
	}
}
