package tests

import (
	"fmt"
	"math"
	"math/rand"
	"testing"

	"loop.example/s02132/impl"
)

// timed are the arguments of Advance and Regrace.
type timed struct {
	State impl.State
	N     int
}

func advanced(a timed) any {
	s, code := impl.Advance(a.State, a.N)
	return stateAnswer{s, code}
}

func regraced(a timed) any {
	s, code := impl.Regrace(a.State, a.N)
	return stateAnswer{s, code}
}

func expired(s impl.State) any {
	return impl.Expired(s)
}

// wantTimesApart goes through every code that a state can be answered with.
func wantTimesApart(t *testing.T, what string, s impl.State) {
	t.Helper()
	for _, n := range []int{0, 1, 100, impl.MaxNow - s.Now, impl.MaxNow, impl.MaxNow + 1, math.MaxInt, -1} {
		wantApart(t, fmt.Sprintf("%s, advance %d", what, n), timed{s, n}, advanced)
		wantApart(t, fmt.Sprintf("%s, regrace %d", what, n), timed{s, n}, regraced)
	}
	wantApart(t, what+", expired", s, expired)
}

func TestTimesHaveOwnMemory(t *testing.T) {
	for i, s := range append(someStates(), crowded(), watched(locked(shared, 1, 2, 3, 4), 1, 2, 3, 4), atTime(ordinaryState(), 92)) {
		wantTimesApart(t, fmt.Sprint("state ", i), s)
	}
	for name, s := range wrongStates() {
		wantTimesApart(t, name, s)
	}
	r := rand.New(rand.NewSource(20))
	for i := range 40 {
		wantTimesApart(t, fmt.Sprint("random state ", i), randomState(r))
	}
}

// The lists of the state itself may share memory.
func TestTimesOverSharedMemory(t *testing.T) {
	ids := idsOf(1, 2, 3, 4)
	s := watched(locked(shared, 1, 2, 3, 4), ids...)
	s.Nodes[0].Holders = ids
	s.Nodes[0].Value = s.Nodes[0].Path
	s.Sessions[0].Queue = []impl.Event{{Kind: impl.EvChanged, Path: s.Nodes[0].Path}}
	s.Sessions[1].Queue = s.Sessions[0].Queue
	before := told(s)
	for _, a := range []timed{{s, 5}, {s, impl.MaxNow}} {
		for i, call := range []func(timed) any{advanced, regraced} {
			lists := memories(call(a))
			for j, list := range lists {
				for _, other := range append(lists[j+1:], memories(s)...) {
					if overlap(list, other) {
						t.Errorf("call %d by %d: two lists share memory", i, a.N)
					}
				}
			}
		}
	}
	want, _ := secondAdvance(s, 5)
	wantAdvanced(t, "advance", s, 5, want, impl.CodeOK)
	want, _ = secondRegrace(s, 5)
	wantRegraced(t, "regrace", s, 5, want, impl.CodeOK)
	wantExpired(t, "expired", s, 1, 2, 3, 4)
	if told(s) != before {
		t.Errorf("the state was %s, is %s", before, told(s))
	}
}
