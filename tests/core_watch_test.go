package tests

import (
	"fmt"
	"slices"
	"testing"

	"loop.example/s02132/impl"
)

// watched is a state whose node these sessions watch.
func watched(s impl.State, watchers ...uint64) impl.State {
	s.Nodes[0].Watchers = watchers
	return s
}

// given puts an event of the node at the end of these queues.
func given(s *impl.State, kind int, ids ...uint64) {
	for _, id := range ids {
		c := sessionIn(s, id)
		c.Queue = append(c.Queue, eventOf(kind, "/n"))
	}
}

func TestWhatIsTold(t *testing.T) {
	wantDone(t, "set", watched(locked(free), 1, 3, 4), setOf(2, "/n", "w"), func(s *impl.State) {
		s.Nodes[0].Value, s.Nodes[0].Watchers = []byte("w"), nil
		given(s, impl.EvChanged, 1, 3, 4)
	}, impl.Reply{})
	wantDone(t, "set by a watcher", watched(locked(free), 2, 3), setOf(2, "/n", "w"), func(s *impl.State) {
		s.Nodes[0].Value, s.Nodes[0].Watchers = []byte("w"), nil
		given(s, impl.EvChanged, 2, 3)
	}, impl.Reply{})
	wantDone(t, "delete", watched(locked(exclusive, 2), 1, 2), onNode(impl.OpDelete, 2, "/n"), func(s *impl.State) {
		gone(s)
		given(s, impl.EvDeleted, 1, 2)
	}, impl.Reply{})
	wantDone(t, "unlock", watched(locked(exclusive, 2), 1, 2), onNode(impl.OpUnlock, 2, "/n"), func(s *impl.State) {
		freed(s)
		s.Nodes[0].Watchers = nil
		given(s, impl.EvFreed, 1, 2)
	}, impl.Reply{})
	wantDone(t, "unlock by the last", watched(locked(shared, 2), 4), onNode(impl.OpUnlock, 2, "/n"), func(s *impl.State) {
		freed(s)
		s.Nodes[0].Watchers = nil
		given(s, impl.EvFreed, 4)
	}, impl.Reply{})
}

func TestWhatIsNotTold(t *testing.T) {
	wantDone(t, "unlock with holders left", watched(locked(shared, 1, 2), 1, 2, 3), onNode(impl.OpUnlock, 2, "/n"), func(s *impl.State) {
		s.Nodes[0].Holders = idsOf(1)
	}, impl.Reply{})
	wantDone(t, "a lock", watched(locked(free), 1, 2), lockOf(2, "/n", shared), heldShared(2), impl.Reply{})
	wantDone(t, "a child", watched(locked(free), 1, 2), createOf(2, "/n/c", 0, ""), func(s *impl.State) {
		putNode(s, impl.Node{Path: []byte("/n/c")})
	}, impl.Reply{})
	s := watched(locked(free), 1, 2)
	putNode(&s, impl.Node{Path: []byte("/n/c"), Owner: 3})
	wantDone(t, "a child that goes", s, onNode(impl.OpDelete, 2, "/n/c"), func(s *impl.State) { dropNode(s, "/n/c") }, impl.Reply{})
	wantDone(t, "a child that changes", s, setOf(2, "/n/c", "x"), func(s *impl.State) { s.Nodes[1].Value = []byte("x") }, impl.Reply{})
	faults := []struct {
		op   impl.Op
		code int
	}{
		{setOf(1, "/n", "w"), impl.CodeBusy},
		{onNode(impl.OpDelete, 1, "/n"), impl.CodeBusy},
		{onNode(impl.OpUnlock, 1, "/n"), impl.CodeFree},
		{lockOf(1, "/n", shared), impl.CodeBusy},
		{createOf(1, "/n", 0, ""), impl.CodeExists},
	}
	for _, f := range faults {
		wantFault(t, "what is not done", watched(locked(exclusive, 2), 1, 2, 3), f.op, f.code)
	}
}

func TestOneEventForAWatch(t *testing.T) {
	s := run(t, locked(free), onNode(impl.OpWatch, 1, "/n"), onNode(impl.OpWatch, 1, "/n"), onNode(impl.OpWatch, 2, "/n"))
	s = run(t, s, setOf(3, "/n", "a"), setOf(3, "/n", "b"), lockOf(3, "/n", exclusive), onNode(impl.OpUnlock, 3, "/n"))
	want := []impl.Event{eventOf(impl.EvChanged, "/n")}
	for _, id := range idsOf(1, 2) {
		wantDone(t, "one event", s, ofSession(impl.OpPoll, id), func(s *impl.State) { sessionIn(s, id).Queue = nil }, impl.Reply{Events: want})
	}
	s = run(t, s, ofSession(impl.OpPoll, 1), onNode(impl.OpWatch, 1, "/n"), onNode(impl.OpDelete, 3, "/n"))
	wantDone(t, "the other watch", s, ofSession(impl.OpPoll, 1), func(s *impl.State) { s.Sessions[0].Queue = nil }, impl.Reply{Events: []impl.Event{eventOf(impl.EvDeleted, "/n")}})
	wantDone(t, "what was not fetched", s, ofSession(impl.OpPoll, 2), func(s *impl.State) { s.Sessions[1].Queue = nil }, impl.Reply{Events: want})
}

// A watch is of the node, not of its path: it is gone with the node.
func TestWatchOfANodeThatWasThere(t *testing.T) {
	s := run(t, locked(free), onNode(impl.OpWatch, 1, "/n"), onNode(impl.OpDelete, 2, "/n"), createOf(2, "/n", 0, ""), setOf(2, "/n", "x"))
	wantDone(t, "the delete alone", s, ofSession(impl.OpPoll, 1), func(s *impl.State) { s.Sessions[0].Queue = nil }, impl.Reply{Events: []impl.Event{eventOf(impl.EvDeleted, "/n")}})
}

// Events come in the order in which they were told, those of several nodes too.
func TestOrderOfEvents(t *testing.T) {
	s := locked(exclusive, 2)
	for _, p := range []string{"/b", "/a", "/c"} {
		putNode(&s, impl.Node{Path: []byte(p)})
	}
	for _, p := range []string{"/a", "/b", "/c", "/n"} {
		s = run(t, s, onNode(impl.OpWatch, 4, p))
	}
	s = run(t, s, setOf(1, "/c", ""), onNode(impl.OpDelete, 1, "/a"), onNode(impl.OpUnlock, 2, "/n"), setOf(1, "/b", "x"))
	want := []impl.Event{eventOf(impl.EvChanged, "/c"), eventOf(impl.EvDeleted, "/a"), eventOf(impl.EvFreed, "/n"), eventOf(impl.EvChanged, "/b")}
	wantDone(t, "all four", s, ofSession(impl.OpPoll, 4), func(s *impl.State) { s.Sessions[3].Queue = nil }, impl.Reply{Events: want})
}

// queueOfSize has so many events of another node, the last an overflow if full.
func queueOfSize(n int) []impl.Event {
	if n == impl.MaxQueue {
		return fullQueue(n-1, impl.Event{Kind: impl.EvOverflow})
	}
	return queueOf(slices.Repeat([]string{"/q"}, n)...)
}

func TestQueueSizes(t *testing.T) {
	tellers := map[string]struct {
		s    impl.State
		op   impl.Op
		kind int
		do   func(s *impl.State)
	}{
		"set":    {locked(free), setOf(2, "/n", "w"), impl.EvChanged, func(s *impl.State) { s.Nodes[0].Value, s.Nodes[0].Watchers = []byte("w"), nil }},
		"delete": {locked(exclusive, 2), onNode(impl.OpDelete, 2, "/n"), impl.EvDeleted, gone},
		"unlock": {locked(shared, 2), onNode(impl.OpUnlock, 2, "/n"), impl.EvFreed, func(s *impl.State) { freed(s); s.Nodes[0].Watchers = nil }},
		"close":  {locked(shared, 2), ofSession(impl.OpClose, 2), impl.EvFreed, func(s *impl.State) { freed(s); s.Nodes[0].Watchers = nil; dropSession(s, 2) }},
	}
	for name, x := range tellers {
		for n := range impl.MaxQueue + 1 {
			s := watched(x.s, 1, 3)
			s.Sessions[0].Queue = queueOfSize(n)
			wantDone(t, fmt.Sprintf("%s with %d events", name, n), s, x.op, func(s *impl.State) {
				x.do(s)
				given(s, x.kind, 3)
				switch {
				case n < 7:
					given(s, x.kind, 1)
				case n == 7:
					s.Sessions[0].Queue = queueOfSize(8)
				}
			}, impl.Reply{})
		}
	}
}

// Who has lost events sees it at the end, and gets all again after a poll.
func TestOverflow(t *testing.T) {
	s := locked(free)
	var want []impl.Event
	for i := range 20 {
		s = run(t, s, onNode(impl.OpWatch, 1, "/n"), setOf(2, "/n", fmt.Sprint(i)))
		switch {
		case i < 7:
			want = append(want, eventOf(impl.EvChanged, "/n"))
		case i == 7:
			want = append(want, impl.Event{Kind: impl.EvOverflow})
		}
		if got := sessionIn(&s, 1).Queue; told(got) != told(want) {
			t.Fatalf("after %d events: %s, want %s", i+1, told(got), told(want))
		}
	}
	s = wantDone(t, "poll", s, ofSession(impl.OpPoll, 1), func(s *impl.State) { s.Sessions[0].Queue = nil }, impl.Reply{Events: want})
	s = run(t, s, onNode(impl.OpWatch, 1, "/n"), setOf(2, "/n", "last"))
	wantDone(t, "poll again", s, ofSession(impl.OpPoll, 1), func(s *impl.State) { s.Sessions[0].Queue = nil }, impl.Reply{Events: want[:1]})
}

// A watch with a full queue is used up as well.
func TestWatchWithAFullQueue(t *testing.T) {
	s := watched(locked(free), 1)
	s.Sessions[0].Queue = queueOfSize(8)
	s = run(t, s, setOf(2, "/n", "a"), ofSession(impl.OpPoll, 1), setOf(2, "/n", "b"))
	wantDone(t, "nothing more", s, ofSession(impl.OpPoll, 1), nothing, impl.Reply{})
}

func TestAllSessionsWatch(t *testing.T) {
	s := flatState(impl.MaxSessions, 1)
	var all []uint64
	for i := range s.Sessions {
		all = append(all, s.Sessions[i].Id)
		s.Sessions[i].Queue = queueOfSize(i % 9)
	}
	s.Nodes[0].Watchers = all
	wantDone(t, "set", s, setOf(25, "/n000", "x"), func(s *impl.State) {
		s.Nodes[0].Value, s.Nodes[0].Watchers = []byte("x"), nil
		for i := range s.Sessions {
			switch c := &s.Sessions[i]; len(c.Queue) {
			case 8:
			case 7:
				c.Queue = queueOfSize(8)
			default:
				c.Queue = append(c.Queue, eventOf(impl.EvChanged, "/n000"))
			}
		}
	}, impl.Reply{})
}
