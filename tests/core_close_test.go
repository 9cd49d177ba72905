package tests

import (
	"fmt"
	"testing"

	"loop.example/s02132/impl"
)

func TestCloseOfASessionWithNothing(t *testing.T) {
	for _, id := range idsOf(1, 2, 3, 4) {
		s := watched(locked(free), without(idsOf(1, 2, 3, 4), id)...)
		wantDone(t, fmt.Sprint("close of ", id), s, ofSession(impl.OpClose, id), func(s *impl.State) { dropSession(s, id) }, impl.Reply{})
		wantFault(t, "close again", run(t, s, ofSession(impl.OpClose, id)), ofSession(impl.OpClose, id), impl.CodeSession)
	}
	wantDone(t, "the only one", flatState(1, 0), ofSession(impl.OpClose, 1), func(s *impl.State) { s.Sessions = nil }, impl.Reply{})
}

func TestCloseLetsGo(t *testing.T) {
	letGo := func(s *impl.State) {
		freed(s)
		s.Nodes[0].Watchers = nil
		given(s, impl.EvFreed, 1, 4)
		dropSession(s, 2)
	}
	wantDone(t, "an exclusive lock", watched(locked(exclusive, 2), 1, 2, 4), ofSession(impl.OpClose, 2), letGo, impl.Reply{})
	wantDone(t, "a shared lock", watched(locked(shared, 2), 1, 2, 4), ofSession(impl.OpClose, 2), letGo, impl.Reply{})
	wantDone(t, "a shared lock with holders left", watched(locked(shared, 1, 2, 4), 1, 2, 4), ofSession(impl.OpClose, 2), func(s *impl.State) {
		s.Nodes[0].Holders, s.Nodes[0].Watchers = idsOf(1, 4), idsOf(1, 4)
		dropSession(s, 2)
	}, impl.Reply{})
	wantDone(t, "a lock of another", watched(locked(exclusive, 1), 1, 2, 4), ofSession(impl.OpClose, 2), func(s *impl.State) {
		s.Nodes[0].Watchers = idsOf(1, 4)
		dropSession(s, 2)
	}, impl.Reply{})
}

// owned is a state whose node is the session's ephemeral one.
func owned(s impl.State, owner uint64) impl.State {
	s.Nodes[0].Owner = owner
	return s
}

func TestCloseDeletesWhatItOwns(t *testing.T) {
	deleted := func(s *impl.State) {
		gone(s)
		given(s, impl.EvDeleted, 1, 4)
		dropSession(s, 2)
	}
	wantDone(t, "a free lock", owned(watched(locked(free), 1, 2, 4), 2), ofSession(impl.OpClose, 2), deleted, impl.Reply{})
	wantDone(t, "another's exclusive lock", owned(watched(locked(exclusive, 3), 1, 2, 4), 2), ofSession(impl.OpClose, 2), deleted, impl.Reply{})
	wantDone(t, "others' shared lock", owned(watched(locked(shared, 1, 3), 1, 2, 4), 2), ofSession(impl.OpClose, 2), deleted, impl.Reply{})
	wantDone(t, "a shared lock with others", owned(watched(locked(shared, 1, 2), 1, 2, 4), 2), ofSession(impl.OpClose, 2), deleted, impl.Reply{})
	wantDone(t, "one that is another's", owned(watched(locked(free), 1, 2, 4), 3), ofSession(impl.OpClose, 2), func(s *impl.State) {
		s.Nodes[0].Watchers = idsOf(1, 4)
		dropSession(s, 2)
	}, impl.Reply{})
}

// The watch is used up by the lock that goes first, so the delete is not told.
func TestCloseOfWhatItHoldsAndOwns(t *testing.T) {
	for _, mode := range []int{exclusive, shared} {
		wantDone(t, fmt.Sprint("mode ", mode), owned(watched(locked(mode, 2), 1, 2, 4), 2), ofSession(impl.OpClose, 2), func(s *impl.State) {
			gone(s)
			given(s, impl.EvFreed, 1, 4)
			dropSession(s, 2)
		}, impl.Reply{})
	}
}

// Nodes go in ascending order, where /a-x stands before /a/b, and each with its
// lock first; the one that is closed watches nothing by then.
func TestCloseTellsNodeByNode(t *testing.T) {
	s := flatState(3, 0)
	s.Gen, s.Now = 9, 40
	putNode(&s, impl.Node{Path: []byte("/a"), Mode: exclusive, Holders: idsOf(2), Gen: 1, Watchers: idsOf(1, 2, 3)})
	putNode(&s, impl.Node{Path: []byte("/a-x"), Owner: 2, Watchers: idsOf(2, 3)})
	putNode(&s, impl.Node{Path: []byte("/a/b"), Owner: 2, Mode: shared, Holders: idsOf(2), Watchers: idsOf(1, 3)})
	putNode(&s, impl.Node{Path: []byte("/a/c"), Mode: shared, Holders: idsOf(2, 3), Watchers: idsOf(2, 3)})
	putNode(&s, impl.Node{Path: []byte("/a0"), Owner: 3, Mode: exclusive, Holders: idsOf(2), Epoch: 1, Gen: 9, Watchers: idsOf(3)})
	putNode(&s, impl.Node{Path: []byte("/b"), Owner: 2, Mode: exclusive, Holders: idsOf(1), Gen: 2, Watchers: idsOf(1, 3)})
	putNode(&s, impl.Node{Path: []byte("/c"), Owner: 1, Mode: exclusive, Holders: idsOf(1), Gen: 3, Watchers: idsOf(1, 2, 3)})
	wantDone(t, "close", s, ofSession(impl.OpClose, 2), func(s *impl.State) {
		s.Nodes = []impl.Node{
			{Path: []byte("/a")},
			{Path: []byte("/a/c"), Mode: shared, Holders: idsOf(3), Watchers: idsOf(3)},
			{Path: []byte("/a0"), Owner: 3},
			{Path: []byte("/c"), Owner: 1, Mode: exclusive, Holders: idsOf(1), Gen: 3, Watchers: idsOf(1, 3)},
		}
		s.Sessions = []impl.Session{
			{Id: 1, Queue: []impl.Event{eventOf(impl.EvFreed, "/a"), eventOf(impl.EvFreed, "/a/b"), eventOf(impl.EvDeleted, "/b")}},
			{Id: 3, Queue: []impl.Event{
				eventOf(impl.EvFreed, "/a"), eventOf(impl.EvDeleted, "/a-x"), eventOf(impl.EvFreed, "/a/b"),
				eventOf(impl.EvFreed, "/a0"), eventOf(impl.EvDeleted, "/b"),
			}},
		}
	}, impl.Reply{})
}

// The first seven events in ascending order are told, the others are lost.
func TestCloseOverflows(t *testing.T) {
	s := flatState(2, impl.MaxNodes)
	for i := range s.Nodes {
		s.Nodes[i].Owner, s.Nodes[i].Watchers = 1, idsOf(2)
	}
	wantDone(t, "close of the owner of all", s, ofSession(impl.OpClose, 1), func(s *impl.State) {
		var queue []impl.Event
		for _, n := range s.Nodes[:7] {
			queue = append(queue, impl.Event{Kind: impl.EvDeleted, Path: n.Path})
		}
		s.Sessions = []impl.Session{{Id: 2, Queue: append(queue, impl.Event{Kind: impl.EvOverflow})}}
		s.Nodes = nil
	}, impl.Reply{})
}

// What waits for the one that is closed goes with it, and for others stays.
func TestCloseAndQueues(t *testing.T) {
	s := locked(free)
	for i := range s.Sessions {
		s.Sessions[i].Queue = queueOfSize(2 * (i + 1))
		s.Sessions[i].Deadline = 100 * i
	}
	for _, id := range idsOf(1, 2, 3, 4) {
		wantDone(t, fmt.Sprint("close of ", id), s, ofSession(impl.OpClose, id), func(s *impl.State) { dropSession(s, id) }, impl.Reply{})
	}
}

// Closing all, one after another, leaves what has no owner, and no lock.
func TestCloseOfAll(t *testing.T) {
	s := crowded()
	for _, c := range s.Sessions {
		s = run(t, s, ofSession(impl.OpClose, c.Id))
	}
	want := crowded()
	want.Sessions = nil
	dropNode(&want, "/a/b/own")
	for i, n := range want.Nodes {
		want.Nodes[i] = impl.Node{Path: n.Path, Value: n.Value}
	}
	if told(s) != told(want) {
		t.Errorf("%s, want %s", told(s), told(want))
	}
}
