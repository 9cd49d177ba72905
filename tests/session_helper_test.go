package tests

import (
	"slices"
	"testing"

	"loop.example/s02132/impl"
)

// wantAdvanced asks for the whole answer of Advance.
func wantAdvanced(t *testing.T, what string, s impl.State, ticks int, want impl.State, code int) impl.State {
	t.Helper()
	got, c := impl.Advance(s, ticks)
	wantStateAnswer(t, what, stateAnswer{got, c}, stateAnswer{want, code})
	return got
}

// wantRegraced asks for the whole answer of Regrace.
func wantRegraced(t *testing.T, what string, s impl.State, now int, want impl.State, code int) impl.State {
	t.Helper()
	got, c := impl.Regrace(s, now)
	wantStateAnswer(t, what, stateAnswer{got, c}, stateAnswer{want, code})
	return got
}

func wantStateAnswer(t *testing.T, what string, got, want stateAnswer) {
	t.Helper()
	if !soundState(want.State) {
		t.Fatalf("%s: the test itself is wrong", what)
	}
	if told(got) != told(want) {
		t.Errorf("%s: %s, want %s", what, told(got), told(want))
	}
	if !impl.ValidState(got.State) {
		t.Errorf("%s: the state after it is not valid", what)
	}
}

func wantExpired(t *testing.T, what string, s impl.State, want ...uint64) {
	t.Helper()
	if got := impl.Expired(s); !slices.Equal(got, want) {
		t.Errorf("%s: expired are %v, want %v", what, got, want)
	}
}

func atTime(s impl.State, now int) impl.State {
	s.Now = now
	return s
}

// withDeadlines has a session for each deadline, with Ids from 1 on.
func withDeadlines(now int, deadlines ...int) impl.State {
	s := flatState(len(deadlines), 0)
	s.Now = now
	for i, d := range deadlines {
		s.Sessions[i].Deadline = d
	}
	return s
}

// secondAdvance goes tick by tick.
func secondAdvance(s impl.State, ticks int) (impl.State, int) {
	if !soundState(s) || ticks < 0 {
		return impl.State{}, impl.CodeBad
	}
	after := s
	for ; ticks > 0; ticks-- {
		if after.Now == 1000000 {
			return s, impl.CodeFull
		}
		after.Now++
	}
	return after, impl.CodeOK
}

func secondExpired(s impl.State) []uint64 {
	var ids []uint64
	if !soundState(s) {
		return ids
	}
	for _, c := range s.Sessions {
		if left := c.Deadline - s.Now; left <= 0 {
			ids = append(ids, c.Id)
		}
	}
	return ids
}

func secondRegrace(s impl.State, now int) (impl.State, int) {
	if !soundState(s) || now < 0 || now > 1000000 {
		return impl.State{}, impl.CodeBad
	}
	after := durableOf(s)
	after.Now = now
	for i := range after.Sessions {
		after.Sessions[i].Deadline = now + 15
	}
	return after, impl.CodeOK
}
