package bucket_test

import (
	"math/rand"
	"testing"

	"jobber/bucket"
)

// P17.2 and P17.3 on drawn bursts, rates and times.

// model is P17.2, word by word.
type model struct{ burst, rate, tokens, reference int }

func (m *model) take(now int) bool {
	if now > m.reference {
		come := (now - m.reference) / m.rate
		if m.tokens+come >= m.burst {
			m.tokens = m.burst
			m.reference = now
		} else {
			m.tokens += come
			m.reference += come * m.rate
		}
	}
	if m.tokens == 0 {
		return false
	}
	if m.tokens == m.burst && now >= m.reference {
		m.reference = now
	}
	m.tokens--
	return true
}

// slow is a bucket whose ticks pass one by one.
type slow struct{ burst, rate, tokens, ticks, now int }

func (s *slow) tick() {
	s.now++
	if s.tokens == s.burst {
		s.ticks = 0
		return
	}
	if s.ticks++; s.ticks == s.rate {
		s.tokens, s.ticks = s.tokens+1, 0
	}
}

func (s *slow) take(now int) bool {
	for s.now < now {
		s.tick()
	}
	if s.tokens == 0 {
		return false
	}
	s.tokens--
	return true
}

func holdSame(t *testing.T, b *bucket.Bucket, now int, ok bool, left int) {
	t.Helper()
	if got := b.Take(now); got != ok || b.Left() != left {
		t.Fatalf("Take(%d) = %t with %d left, not %t with %d", now, got, b.Left(), ok, left)
	}
}

// drawnBurst and drawnRate are mostly small, sometimes at an edge.
func drawnBurst(r *rand.Rand) int {
	switch r.Intn(6) {
	case 0:
		return mostBurst - r.Intn(2)
	case 1:
		return 1 + r.Intn(mostBurst)
	}
	return 1 + r.Intn(6)
}

func drawnRate(r *rand.Rand) int {
	switch r.Intn(6) {
	case 0:
		return mostTick - r.Intn(2)
	case 1:
		return 1 + r.Intn(mostTick)
	}
	return 1 + r.Intn(20)
}

// drawnNow goes on from the time before by some rates, mostly few, or back.
func drawnNow(r *rand.Rand, before, rate int) int {
	now := before
	switch r.Intn(10) {
	case 0:
		now = r.Intn(mostTick + 1)
	case 1:
		now -= r.Intn(3 * min(rate, 1<<38))
	case 2, 3, 4:
		now += r.Intn(2)
	case 5:
		now += rate * r.Intn(4)
	default:
		now += r.Intn(2 * rate)
	}
	return max(0, min(now, mostTick))
}

// seen counts what was drawn.
type seen struct{ taken, none, filled, added, earlier int }

func (s *seen) count(was, m model, now int, ok bool) {
	if ok {
		s.taken++
	} else {
		s.none++
	}
	switch {
	case now < was.reference:
		s.earlier++
	case m.tokens == m.burst-1 && was.tokens < was.burst-1:
		s.filled++
	case m.reference != was.reference && m.reference != now:
		s.added++
	}
}

func holdMany(t *testing.T, s seen, least int) {
	t.Helper()
	if min(s.taken, s.none, s.filled, s.added, s.earlier) < least {
		t.Errorf("%+v", s)
	}
}

func TestDrawnTakes(t *testing.T) {
	r := rand.New(rand.NewSource(171))
	var s seen
	for range 4000 {
		burst, rate := drawnBurst(r), drawnRate(r)
		b, m := made(t, burst, rate), model{burst: burst, rate: rate, tokens: burst}
		now := 0
		for range 60 {
			now = drawnNow(r, now, rate)
			was := m
			ok := m.take(now)
			holdSame(t, b, now, ok, m.tokens)
			s.count(was, m, now, ok)
		}
	}
	holdMany(t, s, 1000)
}

// Of large bursts that were emptied, so that tokens are missing there, too.
func TestDrawnTakesOfLargeBursts(t *testing.T) {
	r := rand.New(rand.NewSource(172))
	var s seen
	for range 100 {
		burst, rate := 1+r.Intn(1<<16), 1+r.Intn(1<<20)
		at := r.Intn(1 << 30)
		b, m := emptied(t, burst, rate, at), model{burst: burst, rate: rate, reference: at}
		now := at
		for range 200 {
			switch r.Intn(8) {
			case 0:
				now = at + r.Intn(2*burst*rate)
			case 1:
				now -= r.Intn(rate)
			default:
				now += r.Intn(rate + 1)
			}
			was := m
			ok := m.take(now)
			holdSame(t, b, now, ok, m.tokens)
			s.count(was, m, now, ok)
		}
	}
	holdMany(t, s, 50)
}

// rising is how far the next of times that never go back lies on.
func rising(r *rand.Rand, burst, rate int) int {
	switch r.Intn(12) {
	case 0:
		return r.Intn(2*burst*rate + 1)
	case 1, 2:
		return rate
	case 3, 4, 5:
		return r.Intn(rate + 1)
	}
	return r.Intn(2)
}

// Where times don't go back, a bucket is one whose ticks pass one by one.
func TestDrawnTicks(t *testing.T) {
	r := rand.New(rand.NewSource(173))
	var all [2]int
	for range 3000 {
		burst, rate := 1+r.Intn(5), 1+r.Intn(12)
		b, m := made(t, burst, rate), slow{burst: burst, rate: rate, tokens: burst}
		now := 0
		for range 100 {
			now += rising(r, burst, rate)
			ok := m.take(now)
			holdSame(t, b, now, ok, m.tokens)
			if ok {
				all[0]++
			} else {
				all[1]++
			}
		}
	}
	if min(all[0], all[1]) < 10000 {
		t.Error(all)
	}
}

// holdAtMost is P17.3 between any two of these times, at each of which one token
// was taken. It answers at how many pairs not one more could have been taken.
func holdAtMost(t *testing.T, burst, rate int, times []int) int {
	t.Helper()
	most := 0
	for i, from := range times {
		for j, to := range times[i:] {
			may := burst + (to-from)/rate
			if j+1 > may {
				t.Fatalf("%d of %d tokens, one for every %d ticks, are taken from %d to %d", j+1, burst, rate, from, to)
			}
			if j+1 == may {
				most++
			}
		}
	}
	return most
}

func TestDrawnTimesThatRise(t *testing.T) {
	r := rand.New(rand.NewSource(174))
	most := 0
	for range 600 {
		burst, rate := 1+r.Intn(6), 1+r.Intn(15)
		if r.Intn(4) == 0 {
			rate = 1 + r.Intn(mostTick/(1<<12))
		}
		b := made(t, burst, rate)
		var times []int
		now := 0
		for range 300 {
			now += rising(r, burst, rate)
			if b.Take(now) {
				times = append(times, now)
			}
		}
		most += holdAtMost(t, burst, rate, times)
	}
	if most < 10000 {
		t.Error(most)
	}
}

// As many as P17.3 allows are taken of a bucket that is asked at each tick, more
// often than it can give.
func TestAskedAtEachTick(t *testing.T) {
	for burst := 1; burst <= 6; burst++ {
		for rate := 1; rate <= 6; rate++ {
			for _, at := range []int{0, 1, 50} {
				b := made(t, burst, rate)
				var times []int
				for now := at; now <= at+100; now++ {
					for n := 0; n <= burst && b.Take(now); n++ {
						times = append(times, now)
					}
				}
				if len(times) != burst+100/rate {
					t.Error(burst, rate, at, len(times))
				}
				holdAtMost(t, burst, rate, times)
			}
		}
	}
}
