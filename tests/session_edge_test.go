package tests

import (
	"fmt"
	"math"
	"testing"

	"loop.example/s02132/impl"
)

func TestAdvanceByNothing(t *testing.T) {
	for i, s := range append(someStates(), crowded(), atTime(ordinaryState(), 0), atTime(ordinaryState(), impl.MaxNow)) {
		wantAdvanced(t, fmt.Sprint("state ", i), s, 0, s, impl.CodeOK)
	}
}

func TestAdvanceAtTheLastTime(t *testing.T) {
	for _, now := range []int{0, 1, 77, impl.MaxNow - 2, impl.MaxNow - 1, impl.MaxNow} {
		s := atTime(ordinaryState(), now)
		left := impl.MaxNow - now
		if left > 0 {
			wantAdvanced(t, fmt.Sprint("one less from ", now), s, left-1, atTime(s, impl.MaxNow-1), impl.CodeOK)
		}
		wantAdvanced(t, fmt.Sprint("just so from ", now), s, left, atTime(s, impl.MaxNow), impl.CodeOK)
		for _, more := range []int{1, 2, 10, 15, 1000, impl.MaxNow} {
			wantAdvanced(t, fmt.Sprintf("%d too many from %d", more, now), s, left+more, s, impl.CodeFull)
		}
	}
}

// Where now and ticks together are outside their type, or just inside it.
func TestAdvanceByTheGreatest(t *testing.T) {
	for _, now := range []int{0, 1, 77, impl.MaxNow - 1, impl.MaxNow} {
		s := atTime(ordinaryState(), now)
		for _, ticks := range []int{math.MaxInt, math.MaxInt - 1, math.MaxInt - now, math.MaxInt - now + 1, math.MaxInt - impl.MaxNow} {
			if ticks > 0 {
				wantAdvanced(t, fmt.Sprintf("%d from %d", ticks, now), s, ticks, s, impl.CodeFull)
			}
		}
		for _, ticks := range []int{1 << 31, 1 << 32, 1<<32 + 1, 1 << 62} {
			wantAdvanced(t, fmt.Sprintf("%d from %d", ticks, now), s, ticks, s, impl.CodeFull)
		}
	}
}

func TestAdvanceBack(t *testing.T) {
	for _, now := range []int{0, 1, 77, impl.MaxNow} {
		s := atTime(ordinaryState(), now)
		for _, ticks := range []int{-1, -2, -now - 1, -77, -impl.MaxNow, math.MinInt, math.MinInt + 1, math.MinInt + impl.MaxNow} {
			wantAdvanced(t, fmt.Sprintf("%d from %d", ticks, now), s, ticks, impl.State{}, impl.CodeBad)
		}
	}
}

// A deadline is met at its own tick, not one before.
func TestDeadlinesAroundNow(t *testing.T) {
	for _, now := range []int{0, 1, 2, 10, 15, 500, impl.MaxNow - 1, impl.MaxNow} {
		if now > 0 {
			wantExpired(t, fmt.Sprint("one less than ", now), withDeadlines(now, now-1), 1)
			wantExpired(t, fmt.Sprint("0 at ", now), withDeadlines(now, 0), 1)
		}
		wantExpired(t, fmt.Sprint("just ", now), withDeadlines(now, now), 1)
		wantExpired(t, fmt.Sprint("one more than ", now), withDeadlines(now, now+1))
		wantExpired(t, fmt.Sprint("a lease more than ", now), withDeadlines(now, now+10))
		wantExpired(t, fmt.Sprint("a lease and a grace more than ", now), withDeadlines(now, now+15))
		wantExpired(t, fmt.Sprint("the greatest at ", now), withDeadlines(now, impl.MaxNow+15))
		wantExpired(t, fmt.Sprint("all around ", now), withDeadlines(now, now+1, now, now+2, now, now+15, now), 2, 4, 6)
	}
	for _, deadline := range []int{impl.MaxNow + 1, impl.MaxNow + 10, impl.MaxNow + 14} {
		wantExpired(t, "never", withDeadlines(impl.MaxNow, deadline))
	}
}

// The Ids ascend, whatever the order of the deadlines.
func TestExpiredOfMany(t *testing.T) {
	wantExpired(t, "falling deadlines", withDeadlines(50, 40, 30, 20, 10, 0), 1, 2, 3, 4, 5)
	wantExpired(t, "rising deadlines", withDeadlines(50, 0, 10, 20, 30, 40), 1, 2, 3, 4, 5)
	s := flatState(impl.MaxSessions, 0)
	s.Next = impl.MaxCounter
	var all, odd []uint64
	for i := range s.Sessions {
		s.Sessions[i].Id = impl.MaxCounter - 3*uint64(impl.MaxSessions-1-i)
		all = append(all, s.Sessions[i].Id)
		if i%2 == 1 {
			odd = append(odd, s.Sessions[i].Id)
		}
	}
	wantExpired(t, "all", s, all...)
	for i := 0; i < len(s.Sessions); i += 2 {
		s.Sessions[i].Deadline = 1
	}
	wantExpired(t, "every other", s, odd...)
	for i := range s.Sessions {
		s.Sessions[i].Deadline = 1 + i
	}
	wantExpired(t, "none", s)
	for i := range s.Sessions {
		wantExpired(t, "one after another", atTime(s, 1+i), all[:i+1]...)
	}
}

// What a session has beside its deadline doesn't matter.
func TestExpiredGoesByDeadlinesAlone(t *testing.T) {
	s := ordinaryState()
	for i := range s.Sessions {
		s.Sessions[i].Deadline = 77
	}
	wantExpired(t, "all three", s, 1, 130, 300)
	for i := range s.Sessions {
		s.Sessions[i].Deadline = 78
	}
	wantExpired(t, "none of them", s)
}

func TestRegraceAtTheLimits(t *testing.T) {
	for _, s := range append(someStates(), crowded()) {
		for _, now := range []int{0, 1, impl.MaxNow - 1, impl.MaxNow} {
			want, _ := secondRegrace(s, now)
			wantRegraced(t, fmt.Sprint("at ", now), s, now, want, impl.CodeOK)
		}
		for _, now := range []int{-1, -2, impl.MaxNow + 1, impl.MaxNow + 15, 1 << 32, math.MaxInt, math.MaxInt - 14, math.MinInt} {
			wantRegraced(t, fmt.Sprint("at ", now), s, now, impl.State{}, impl.CodeBad)
		}
	}
}

// A deadline becomes the same whatever it was, even if it was later.
func TestRegraceOfAnyDeadline(t *testing.T) {
	for _, now := range []int{0, 1, 500, impl.MaxNow} {
		s := withDeadlines(500, 0, now, now+10, now+14, now+15, min(now+16, impl.MaxNow+15), impl.MaxNow, impl.MaxNow+15)
		d := now + 15
		wantRegraced(t, fmt.Sprint("at ", now), s, now, withDeadlines(now, d, d, d, d, d, d, d, d), impl.CodeOK)
	}
}

// At the last time no deadline of a grace or a lease can be met.
func TestTimeThatHasRunOut(t *testing.T) {
	s, _ := impl.Regrace(ordinaryState(), impl.MaxNow)
	wantExpired(t, "after a regrace", s)
	wantAdvanced(t, "one tick more", s, 1, s, impl.CodeFull)
	s = run(t, s, impl.Op{Kind: impl.OpOpen}, ofSession(impl.OpKeep, 1))
	wantExpired(t, "after an open and a keep", s)
}

func TestRegraceOfTheGreatestCounters(t *testing.T) {
	s := ordinaryState()
	s.Epoch, s.Gen, s.Next = impl.MaxCounter, impl.MaxCounter, impl.MaxCounter
	want, _ := secondRegrace(s, 9)
	wantRegraced(t, "regrace", s, 9, want, impl.CodeOK)
	wantAdvanced(t, "advance", s, 9, atTime(s, 86), impl.CodeOK)
	wantExpired(t, "expired", s, 300)
}

func TestSessionsOfAStateThatIsNotValid(t *testing.T) {
	for name, s := range wrongStates() {
		if soundState(s) {
			t.Fatalf("%s: the test itself is wrong", name)
		}
		wantExpired(t, name, s)
		for _, n := range []int{0, 1, 10, impl.MaxNow, impl.MaxNow + 1, math.MaxInt, -1, math.MinInt} {
			wantAdvanced(t, fmt.Sprintf("%s, advance %d", name, n), s, n, impl.State{}, impl.CodeBad)
			wantRegraced(t, fmt.Sprintf("%s, regrace %d", name, n), s, n, impl.State{}, impl.CodeBad)
		}
	}
}
