package tests

import (
	"fmt"
	"maps"
	"math/rand"
	"slices"
	"testing"

	"loop.example/s02132/impl"
)

// clock is what clients could write down of a run: the ticks that have gone by,
// and for each session the deadline that it was last answered, or given by a
// grace. It begins with the zero state.
type clock struct {
	now       int
	deadlines map[uint64]int
	seen      map[string]int
}

func (k *clock) over() []uint64 {
	var ids []uint64
	for _, id := range slices.Sorted(maps.Keys(k.deadlines)) {
		if k.deadlines[id] <= k.now {
			ids = append(ids, id)
		}
	}
	return ids
}

func (k *clock) note(op impl.Op, reply impl.Reply) {
	if reply.Code != impl.CodeOK {
		return
	}
	switch op.Kind {
	case impl.OpOpen:
		k.deadlines[reply.Id] = reply.Num
		k.seen["opened"]++
	case impl.OpKeep:
		switch before := k.deadlines[op.Session]; {
		case before <= k.now:
			k.seen["kept when it was over"]++
		case before == reply.Num && reply.Num > k.now+10:
			k.seen["kept in its grace"]++
		case before < reply.Num:
			k.seen["kept in time"]++
		}
		k.deadlines[op.Session] = reply.Num
	case impl.OpClose:
		if k.deadlines[op.Session] <= k.now {
			k.seen["closed when it was over"]++
		}
		delete(k.deadlines, op.Session)
	}
}

// timedStep is one step of a run: time goes by, the service comes back, or there
// is a request.
func timedStep(t *testing.T, r *rand.Rand, s impl.State, k *clock) impl.State {
	t.Helper()
	var op impl.Op
	switch choice := r.Intn(40); {
	case choice < 10:
		ticks := r.Intn(5)
		after, code := impl.Advance(s, ticks)
		if code != impl.CodeOK {
			t.Fatalf("advance: code %d", code)
		}
		k.now += ticks
		return after
	case choice == 10:
		k.now = pick(r, k.now, k.now+3)
		after, code := impl.Regrace(s, k.now)
		if code != impl.CodeOK {
			t.Fatalf("regrace: code %d", code)
		}
		for id := range k.deadlines {
			k.deadlines[id] = k.now + 15
		}
		k.seen["regraced"]++
		return after
	case choice < 18:
		op = ofSession(impl.OpKeep, randomSession(r, s))
	case choice < 22 && len(impl.Expired(s)) > 0:
		op = ofSession(impl.OpClose, pick(r, impl.Expired(s)...))
	default:
		op = randomOp(r, s)
	}
	after, reply := impl.Apply(s, op)
	k.note(op, reply)
	return after
}

// Promise 11: by what clients were answered, none is expired before its deadline,
// and each is from it on; a keep makes no deadline earlier.
func TestExpiredByTheClock(t *testing.T) {
	r := rand.New(rand.NewSource(15))
	seen := map[string]int{}
	for i := range 30 {
		s, k := impl.State{}, &clock{deadlines: map[uint64]int{}, seen: seen}
		for range 300 {
			before := maps.Clone(k.deadlines)
			graces := seen["regraced"]
			s = timedStep(t, r, s, k)
			if got := impl.Expired(s); !slices.Equal(got, k.over()) {
				t.Fatalf("run %d at %d: expired are %v, by the clock %v", i, k.now, got, k.over())
			} else if len(got) > 0 {
				seen["expired"]++
			}
			if s.Now != k.now || !soundState(s) {
				t.Fatalf("run %d at %d: %s", i, k.now, told(s))
			}
			for id, deadline := range k.deadlines {
				if was, there := before[id]; there && deadline < was && seen["regraced"] == graces {
					t.Fatalf("run %d at %d: the deadline of %d was %d, is %d", i, k.now, id, was, deadline)
				}
			}
		}
	}
	for _, what := range []string{"opened", "kept when it was over", "kept in its grace", "kept in time", "closed when it was over", "regraced", "expired"} {
		if seen[what] < 50 {
			t.Errorf("the test itself is too narrow: %s %d times", what, seen[what])
		}
	}
}

// Promise 11: whatever the state was, no session is expired for so many ticks.
func TestEverySessionHasItsGrace(t *testing.T) {
	r := rand.New(rand.NewSource(16))
	for i := range 200 {
		now := pick(r, 0, 1, r.Intn(impl.MaxNow+1), impl.MaxNow-15, impl.MaxNow-14, impl.MaxNow)
		before := randomState(r)
		s, code := impl.Regrace(before, now)
		if code != impl.CodeOK || len(s.Sessions) != len(before.Sessions) {
			t.Fatalf("state %d at %d: code %d", i, now, code)
		}
		for later := range 16 {
			at, code := impl.Advance(s, later)
			if now+later > impl.MaxNow {
				break
			}
			if code != impl.CodeOK {
				t.Fatalf("state %d at %d: code %d", i, now, code)
			}
			var want []uint64
			for _, c := range before.Sessions {
				if later == 15 {
					want = append(want, c.Id)
				}
			}
			wantExpired(t, fmt.Sprintf("state %d, %d after %d", i, later, now), at, want...)
		}
	}
}

// All that the chapter says, over any states, valid or not.
func TestTimesOfAnyState(t *testing.T) {
	r := rand.New(rand.NewSource(17))
	codes, some := map[int]int{}, 0
	for i := range 1500 {
		s := randomState(r)
		if i%3 > 0 {
			spoil(r, &s)
		}
		if len(s.Sessions) > 0 && i%5 == 0 {
			s.Now = min(pick(r, s.Sessions...).Deadline, impl.MaxNow)
		}
		n := pick(r, -1, 0, r.Intn(2*impl.MaxNow), impl.MaxNow-s.Now, impl.MaxNow-s.Now+1, impl.MaxNow, impl.MaxNow+1)
		advanced, advance := secondAdvance(s, n)
		wantAdvanced(t, fmt.Sprint("state ", i), s, n, advanced, advance)
		regraced, regrace := secondRegrace(s, n)
		wantRegraced(t, fmt.Sprint("state ", i), s, n, regraced, regrace)
		wantExpired(t, fmt.Sprint("state ", i), s, secondExpired(s)...)
		codes[advance]++
		if len(secondExpired(s)) > 0 {
			some++
		}
	}
	if codes[impl.CodeOK] < 100 || codes[impl.CodeBad] < 100 || codes[impl.CodeFull] < 100 || some < 100 {
		t.Errorf("the test itself is too narrow: %v, %d with expired sessions", codes, some)
	}
}

// Runs of requests, ticks and graces from many beginnings, against the second
// core and the second times.
func TestTimedRunsAsOfTheSecond(t *testing.T) {
	r := rand.New(rand.NewSource(18))
	for i, s := range beginnings(r) {
		for range 60 {
			switch ticks := r.Intn(8); r.Intn(8) {
			case 0, 1:
				want, code := secondAdvance(s, ticks)
				s = wantAdvanced(t, fmt.Sprint("run ", i), s, ticks, want, code)
			case 2:
				now := min(s.Now+ticks, impl.MaxNow)
				want, code := secondRegrace(s, now)
				s = wantRegraced(t, fmt.Sprint("run ", i), s, now, want, code)
			default:
				op := randomOp(r, s)
				want, reply := secondApply(s, op)
				s = wantAnswer(t, fmt.Sprintf("run %d, %s", i, told(op)), s, op, want, reply)
			}
			wantExpired(t, fmt.Sprint("run ", i), s, secondExpired(s)...)
			if t.Failed() {
				return
			}
		}
	}
}

// A sweep by hand: when all that have expired are closed, none is left that is
// over, and none is gone that is not.
func TestCloseOfAllExpired(t *testing.T) {
	r := rand.New(rand.NewSource(19))
	closed, left := 0, 0
	for i := range 150 {
		s := randomState(r)
		for j := range s.Sessions {
			s.Sessions[j].Deadline = r.Intn(40)
		}
		s.Now = r.Intn(40)
		over := impl.Expired(s)
		after := s
		for _, id := range over {
			after = run(t, after, ofSession(impl.OpClose, id))
		}
		wantExpired(t, fmt.Sprint("state ", i), after)
		for _, c := range s.Sessions {
			if knows(after, c.Id) != (c.Deadline > s.Now) {
				t.Fatalf("state %d at %d: %d with deadline %d: is it there: %v", i, s.Now, c.Id, c.Deadline, knows(after, c.Id))
			}
		}
		closed += len(over)
		left += len(after.Sessions)
	}
	if closed < 200 || left < 200 {
		t.Errorf("the test itself is too narrow: %d closed, %d left", closed, left)
	}
}
