package lock_test

import (
	"math/rand"
	"testing"

	"jobber/lock"
)

// P18.1 to P18.4 on drawn tries, ticks, calls and times.

// model is P18.1 to P18.3, word by word.
type model struct{ tries, ticks, number, until int }

func (m *model) locked(now int) bool {
	return m.number == m.tries && now < m.until
}

func (m *model) failed(now int) {
	if m.locked(now) {
		return
	}
	if m.number == m.tries {
		m.number = 0
	}
	m.number++
	if m.number == m.tries {
		m.until = now + m.ticks
	}
}

func (m *model) clear() { m.number = 0 }

// pair is a lock beside its model.
type pair struct {
	l *lock.Lock
	m model
}

func drawn(t *testing.T, tries, ticks int) pair {
	t.Helper()
	return pair{made(t, tries, ticks), model{tries: tries, ticks: ticks}}
}

func (p *pair) fail(now int) {
	p.l.Failed(now)
	p.m.failed(now)
}

func (p *pair) clear() {
	p.l.Clear()
	p.m.clear()
}

func (p *pair) hold(t *testing.T, times ...int) {
	t.Helper()
	if got := p.l.Wrong(); got != p.m.number {
		t.Fatalf("Wrong() = %d in %+v", got, p.m)
	}
	for _, now := range append(times, 0, p.m.until-1, p.m.until, p.m.until+1, mostTick) {
		if got := p.l.Locked(now); got != p.m.locked(now) {
			t.Fatalf("Locked(%d) = %t in %+v", now, got, p.m)
		}
	}
}

// drawnTries and drawnTicks are mostly few, sometimes at an edge.
func drawnTries(r *rand.Rand) int {
	switch r.Intn(12) {
	case 0:
		return mostTries - r.Intn(2)
	case 1:
		return 1 + r.Intn(mostTries)
	}
	return 1 + r.Intn(5)
}

func drawnTicks(r *rand.Rand) int {
	switch r.Intn(8) {
	case 0:
		return mostTick - r.Intn(2)
	case 1:
		return 1 + r.Intn(mostTick)
	}
	return 1 + r.Intn(20)
}

// drawnNow goes on from the time before by some ticks, mostly few, or back, or
// around the time until which the lock is closed.
func drawnNow(r *rand.Rand, before int, m model) int {
	now := before
	switch r.Intn(10) {
	case 0:
		now = r.Intn(mostTick + 1)
	case 1:
		now -= r.Intn(3 * m.ticks)
	case 2, 3:
		now = m.until - 1 + r.Intn(3)
	case 4, 5, 6:
		now += r.Intn(2)
	case 7:
		now += m.ticks * r.Intn(3)
	default:
		now += r.Intn(2 * m.ticks)
	}
	return max(0, min(now, mostTick))
}

// seen counts what was drawn.
type seen struct{ counted, closes, deaf, anew, earlier, cleared, unlocked int }

func (s *seen) fail(m model, before, now int) {
	switch {
	case m.locked(now):
		s.deaf++
	case m.number == m.tries:
		s.anew++
	default:
		s.counted++
	}
	if !m.locked(now) && m.number%m.tries+1 == m.tries {
		s.closes++
	}
	if now < before {
		s.earlier++
	}
}

func (s *seen) clear(m model, now int) {
	s.cleared++
	if m.locked(now) {
		s.unlocked++
	}
}

func (s seen) hold(t *testing.T, least int) {
	t.Helper()
	if min(s.counted, s.closes, s.deaf, s.anew, s.earlier, s.cleared, s.unlocked) < least {
		t.Errorf("%+v", s)
	}
}

func TestDrawnCalls(t *testing.T) {
	r := rand.New(rand.NewSource(181))
	var s seen
	for range 6000 {
		p := drawn(t, drawnTries(r), drawnTicks(r))
		now := 0
		for range 60 {
			before := now
			now = drawnNow(r, now, p.m)
			if r.Intn(12) == 0 {
				s.clear(p.m, now)
				p.clear()
			} else {
				s.fail(p.m, before, now)
				p.fail(now)
			}
			p.hold(t, now, before)
		}
	}
	s.hold(t, 1000)
}

// Of many tries, most of which are used up, so that they close here, too.
func TestDrawnCallsOfManyTries(t *testing.T) {
	r := rand.New(rand.NewSource(182))
	var s seen
	for range 200 {
		tries := 100 + r.Intn(2000)
		p := drawn(t, tries, drawnTicks(r))
		now := 0
		for range 12 {
			for range max(0, tries-p.m.number%tries-r.Intn(3)) {
				before := now
				now = drawnNow(r, now, p.m)
				s.fail(p.m, before, now)
				p.fail(now)
			}
			p.hold(t, now)
			if r.Intn(3) == 0 {
				s.clear(p.m, now)
				p.clear()
				p.hold(t, now)
			}
		}
	}
	s.hold(t, 100)
}

// rising is how far the next of times that never go back lies on.
func rising(r *rand.Rand, ticks int) int {
	switch r.Intn(12) {
	case 0:
		return r.Intn(3*ticks + 1)
	case 1:
		return ticks
	case 2, 3, 4:
		return r.Intn(ticks + 1)
	}
	return r.Intn(2)
}

// holdAtMost is P18.4 between any two of these times, at each of which one wrong
// answer was counted. It answers at how many pairs not one more could have been.
func holdAtMost(t *testing.T, tries, ticks int, times []int) int {
	t.Helper()
	most := 0
	for i, from := range times {
		for j, to := range times[i:] {
			may := tries * ((to-from)/ticks + 1)
			if j+1 > may {
				t.Fatalf("%d wrong answers, of %d tries and %d ticks, are counted from %d to %d", j+1, tries, ticks, from, to)
			}
			if j+1 == may {
				most++
			}
		}
	}
	return most
}

// counts tells whether a wrong answer counts. With one try, its number stays the
// same, so that only the lock tells.
func counts(l *lock.Lock, now int) bool {
	free, was := !l.Locked(now), l.Wrong()
	l.Failed(now)
	return free || l.Wrong() != was
}

func TestDrawnTimesThatRise(t *testing.T) {
	r := rand.New(rand.NewSource(183))
	most := 0
	for range 800 {
		tries, ticks := 1+r.Intn(5), 1+r.Intn(15)
		if r.Intn(4) == 0 {
			ticks = 1 + r.Intn(mostTick/(1<<12))
		}
		l := made(t, tries, ticks)
		var times []int
		now := 0
		for range 250 {
			now += rising(r, ticks)
			if counts(l, now) {
				times = append(times, now)
			}
		}
		most += holdAtMost(t, tries, ticks, times)
	}
	if most < 10000 {
		t.Error(most)
	}
}

// As many as P18.4 allows are counted of a lock that is asked at each tick, more
// often than it has tries.
func TestAskedAtEachTick(t *testing.T) {
	for tries := 1; tries <= 6; tries++ {
		for ticks := 1; ticks <= 6; ticks++ {
			for _, at := range []int{0, 1, 50} {
				l := made(t, tries, ticks)
				var times []int
				for now := at; now <= at+100; now++ {
					for range tries + 2 {
						if counts(l, now) {
							times = append(times, now)
						}
					}
				}
				if len(times) != tries*(100/ticks+1) {
					t.Error(tries, ticks, at, len(times))
				}
				holdAtMost(t, tries, ticks, times)
			}
		}
	}
}
