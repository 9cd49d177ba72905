package tests

import (
	"testing"

	"loop.example/s02132/impl"
)

// Every test that speaks of the ordinary state has its sessions with these
// deadlines at the time 77: 1 with 87, 130 with 92 and 300 with 0.

func TestSessionNumbers(t *testing.T) {
	if impl.Lease != 10 || impl.Grace != 5 || impl.MaxNow != 1000000 {
		t.Errorf("Lease %d, Grace %d, MaxNow %d", impl.Lease, impl.Grace, impl.MaxNow)
	}
}

// Nothing but the time changes: no session goes, though its time is over.
func TestAdvance(t *testing.T) {
	s := ordinaryState()
	wantAdvanced(t, "by 1", s, 1, atTime(s, 78), impl.CodeOK)
	wantAdvanced(t, "to a deadline", s, 10, atTime(s, 87), impl.CodeOK)
	wantAdvanced(t, "past all deadlines", s, 500, atTime(s, 577), impl.CodeOK)
	wantAdvanced(t, "of the zero state", impl.State{}, 3, impl.State{Now: 3}, impl.CodeOK)
	wantAdvanced(t, "of a crowded state", crowded(), 20, atTime(crowded(), 97), impl.CodeOK)
}

func TestAdvanceTwice(t *testing.T) {
	s := ordinaryState()
	s = wantAdvanced(t, "by 4", s, 4, atTime(s, 81), impl.CodeOK)
	s = wantAdvanced(t, "by 0", s, 0, s, impl.CodeOK)
	s = wantAdvanced(t, "by 9", s, 9, atTime(s, 90), impl.CodeOK)
	wantAdvanced(t, "by 999910", s, 999910, atTime(s, 1000000), impl.CodeOK)
}

func TestExpired(t *testing.T) {
	s := ordinaryState()
	wantExpired(t, "at 77", s, 300)
	wantExpired(t, "at 86", atTime(s, 86), 300)
	wantExpired(t, "at 87", atTime(s, 87), 1, 300)
	wantExpired(t, "at 91", atTime(s, 91), 1, 300)
	wantExpired(t, "at 92", atTime(s, 92), 1, 130, 300)
	wantExpired(t, "at the last time", atTime(s, impl.MaxNow), 1, 130, 300)
	wantExpired(t, "of the zero state", impl.State{})
	wantExpired(t, "without sessions", atTime(flatState(0, 3), 50))
}

// The durable part alone is left: no queue, no watcher; but the values, owners,
// locks and sequencers are.
func TestRegrace(t *testing.T) {
	want := impl.State{
		Epoch: 3, Gen: 500, Next: 300, Now: 200,
		Sessions: []impl.Session{{Id: 1, Deadline: 215}, {Id: 130, Deadline: 215}, {Id: 300, Deadline: 215}},
		Nodes: []impl.Node{
			{Path: []byte("/a"), Value: []byte("hello")},
			{Path: []byte("/a-b"), Mode: exclusive, Holders: idsOf(130), Epoch: 2, Gen: 400},
			{Path: []byte("/a/b"), Value: []byte{0, 128, 255}, Mode: shared, Holders: idsOf(1, 130, 300)},
			{Path: []byte("/a/b/own"), Owner: 300, Mode: exclusive, Holders: idsOf(1), Epoch: 3, Gen: 500},
			{Path: []byte("/z_9"), Value: someBytes(impl.MaxValue)},
		},
	}
	s := ordinaryState()
	got := wantRegraced(t, "of the ordinary state", s, 200, want, impl.CodeOK)
	wantRegraced(t, "and once more", got, 200, want, impl.CodeOK)
	wantRegraced(t, "of its durable part", durableOf(s), 200, want, impl.CodeOK)
	wantBytes(t, "the bytes after it", impl.EncodeState(got), impl.EncodeState(s))
	wantRegraced(t, "of the zero state", impl.State{}, 6, impl.State{Now: 6}, impl.CodeOK)
}

// The given time may be earlier than that of the state, or the same.
func TestRegraceAtAnyTime(t *testing.T) {
	for _, now := range []int{0, 1, 76, 77, 78, 300} {
		s := durableOf(ordinaryState())
		s.Now = now
		for i := range s.Sessions {
			s.Sessions[i].Deadline = now + 15
		}
		got := wantRegraced(t, "of the ordinary state", ordinaryState(), now, s, impl.CodeOK)
		wantExpired(t, "right after it", got)
		wantExpired(t, "one tick before the deadlines", atTime(got, now+14))
		wantExpired(t, "at the deadlines", atTime(got, now+15), 1, 130, 300)
	}
}

// What was watched is watched no longer, and what was told is lost.
func TestNothingIsToldAfterRegrace(t *testing.T) {
	s := watched(locked(exclusive, 2), 1, 2, 3)
	s.Sessions[2].Queue = queueOf("/n", "/gone")
	s, code := impl.Regrace(s, 40)
	if code != impl.CodeOK {
		t.Fatalf("code %d", code)
	}
	s = run(t, s, setOf(2, "/n", "w"))
	for _, id := range []uint64{1, 2, 3, 4} {
		wantDone(t, "a poll", s, ofSession(impl.OpPoll, id), nothing, impl.Reply{})
	}
	s = run(t, s, onNode(impl.OpWatch, 1, "/n"), onNode(impl.OpUnlock, 2, "/n"))
	_, r := impl.Apply(s, ofSession(impl.OpPoll, 1))
	if told(r) != told(impl.Reply{Events: []impl.Event{eventOf(impl.EvFreed, "/n")}}) {
		t.Errorf("a watch after it: %s", told(r))
	}
}

// Locks go on, with their sequencers.
func TestLocksGoOnAfterRegrace(t *testing.T) {
	s, _ := impl.Regrace(locked(exclusive, 2), 40)
	wantDone(t, "check", s, checkOf(2, "/n", 4, 7), nothing, impl.Reply{Num: 1})
	wantFault(t, "lock by another", s, lockOf(1, "/n", shared), impl.CodeBusy)
	wantDone(t, "unlock", s, onNode(impl.OpUnlock, 2, "/n"), freed, impl.Reply{})
	s, _ = impl.Regrace(locked(shared, 1, 4), 40)
	wantFault(t, "exclusive lock by another", s, lockOf(2, "/n", exclusive), impl.CodeBusy)
	wantDone(t, "shared lock by another", s, lockOf(2, "/n", shared), heldShared(1, 2, 4), impl.Reply{})
}

// A deadline that the grace has made later is not made earlier by a keep.
func TestKeepAfterRegrace(t *testing.T) {
	for _, now := range []int{0, 30, impl.MaxNow - 6, impl.MaxNow - 5, impl.MaxNow} {
		s, code := impl.Regrace(ordinaryState(), now)
		if code != impl.CodeOK {
			t.Fatalf("code %d", code)
		}
		for _, later := range []int{0, 1, 4, 5, 6, 7, 15, 100} {
			if now+later > impl.MaxNow {
				continue
			}
			deadline := max(now+15, now+later+10)
			at, code := impl.Advance(s, later)
			if code != impl.CodeOK {
				t.Fatalf("code %d", code)
			}
			wantDone(t, "keep", at, ofSession(impl.OpKeep, 130), func(s *impl.State) {
				sessionIn(s, 130).Deadline = deadline
			}, impl.Reply{Num: deadline})
		}
	}
}

// An opened session goes by the time that has come, and has no grace.
func TestOpenAfterAdvanceAndRegrace(t *testing.T) {
	s, _ := impl.Advance(ordinaryState(), 23)
	opened := func(deadline int) func(s *impl.State) {
		return func(s *impl.State) {
			s.Next++
			s.Sessions = append(s.Sessions, impl.Session{Id: s.Next, Deadline: deadline})
		}
	}
	s = wantDone(t, "open at 100", s, impl.Op{Kind: impl.OpOpen}, opened(110), impl.Reply{Id: 301, Num: 110})
	s, _ = impl.Regrace(s, 105)
	s = wantDone(t, "open at 105", s, impl.Op{Kind: impl.OpOpen}, opened(115), impl.Reply{Id: 302, Num: 115})
	wantExpired(t, "at 115", atTime(s, 115), 302)
	wantExpired(t, "at 120", atTime(s, 120), 1, 130, 300, 301, 302)
}

// Two sessions, of which one keeps itself: the other's lock and node go with it,
// and the one is told.
func TestLifeOfASession(t *testing.T) {
	open := impl.Op{Kind: impl.OpOpen}
	s := run(t, impl.State{Epoch: 1}, open, open, createOf(1, "/a", 0, "v"), createOf(2, "/a/own", 1, ""),
		lockOf(2, "/a", exclusive), onNode(impl.OpWatch, 1, "/a"), onNode(impl.OpWatch, 1, "/a/own"))
	s, _ = impl.Advance(s, 9)
	wantExpired(t, "at 9", s)
	s = run(t, s, ofSession(impl.OpKeep, 1))
	wantFault(t, "lock at 9", s, lockOf(1, "/a", exclusive), impl.CodeBusy)

	s, _ = impl.Advance(s, 1)
	wantExpired(t, "at 10", s, 2)
	s = run(t, s, ofSession(impl.OpClose, 2))
	wantExpired(t, "when it was closed", s)
	want := impl.State{
		Epoch: 1, Gen: 1, Next: 2, Now: 10,
		Sessions: []impl.Session{{Id: 1, Deadline: 19, Queue: []impl.Event{eventOf(impl.EvFreed, "/a"), eventOf(impl.EvDeleted, "/a/own")}}},
		Nodes:    []impl.Node{{Path: []byte("/a"), Value: []byte("v")}},
	}
	if told(s) != told(want) {
		t.Errorf("%s, want %s", told(s), told(want))
	}
	_, r := impl.Apply(s, lockOf(1, "/a", exclusive))
	if told(r) != told(impl.Reply{Epoch: 1, Gen: 2}) {
		t.Errorf("lock at 10: %s", told(r))
	}
	s, _ = impl.Advance(s, 8)
	wantExpired(t, "at 18", s)
	s, _ = impl.Advance(s, 1)
	wantExpired(t, "at 19", s, 1)
}

// One whose time is over can still keep itself, as long as it wasn't closed.
func TestKeepOfAnExpiredSession(t *testing.T) {
	s := withDeadlines(50, 50, 20, 51)
	wantExpired(t, "before", s, 1, 2)
	s = run(t, s, ofSession(impl.OpKeep, 2))
	wantExpired(t, "after", s, 1)
	wantExpired(t, "at 59", atTime(s, 59), 1, 3)
	wantExpired(t, "at 60", atTime(s, 60), 1, 2, 3)
}
