package tests

import (
	"fmt"
	"testing"

	"loop.example/s02132/impl"
)

// Every test of this file begins with the ordinary state: the sessions 1, 130
// (its queue is full) and 300, the time 77, and the nodes /a (watched by 1 and
// 130), /a-b (exclusive, by 130), /a/b (shared by all three, watched by 300),
// /a/b/own (owned by 300, exclusive by 1, watched by 1) and /z_9.

func TestCoreNumbers(t *testing.T) {
	got := []int{
		impl.CodeOK, impl.CodeBad, impl.CodeForm, impl.CodeSession, impl.CodePath, impl.CodeNone, impl.CodeExists,
		impl.CodeParent, impl.CodeChild, impl.CodeBusy, impl.CodeFree, impl.CodeFull, impl.CodeCounter,
	}
	for i, code := range got {
		if code != i {
			t.Errorf("code %d, want %d", code, i)
		}
	}
	if impl.Lease != 10 || impl.Grace != 5 {
		t.Errorf("Lease %d, Grace %d", impl.Lease, impl.Grace)
	}
}

func TestApplyOpen(t *testing.T) {
	op := impl.Op{Kind: impl.OpOpen}
	s := wantDone(t, "open", ordinaryState(), op, func(s *impl.State) {
		s.Next = 301
		s.Sessions = append(s.Sessions, impl.Session{Id: 301, Deadline: 87})
	}, impl.Reply{Id: 301, Num: 87})
	s.Now = 80
	wantDone(t, "open again", s, op, func(s *impl.State) {
		s.Next = 302
		s.Sessions = append(s.Sessions, impl.Session{Id: 302, Deadline: 90})
	}, impl.Reply{Id: 302, Num: 90})
	wantDone(t, "open in the zero state", impl.State{}, op, func(s *impl.State) {
		s.Next = 1
		s.Sessions = []impl.Session{{Id: 1, Deadline: 10}}
	}, impl.Reply{Id: 1, Num: 10})
}

func TestApplyKeep(t *testing.T) {
	s := ordinaryState()
	wantDone(t, "a deadline before", s, ofSession(impl.OpKeep, 300), func(s *impl.State) { s.Sessions[2].Deadline = 87 }, impl.Reply{Num: 87})
	wantDone(t, "the same deadline", s, ofSession(impl.OpKeep, 1), nothing, impl.Reply{Num: 87})
	wantDone(t, "a later deadline", s, ofSession(impl.OpKeep, 130), nothing, impl.Reply{Num: 92})
	for _, deadline := range []int{0, 76, 77, 78, 86, 87, 88, 91, 92, 1000} {
		s.Sessions[0].Deadline = deadline
		want := max(deadline, 87)
		wantDone(t, fmt.Sprint("deadline ", deadline), s, ofSession(impl.OpKeep, 1), func(s *impl.State) { s.Sessions[0].Deadline = want }, impl.Reply{Num: want})
	}
}

func TestApplyClose(t *testing.T) {
	wantDone(t, "close of a holder and watcher", ordinaryState(), ofSession(impl.OpClose, 1), func(s *impl.State) {
		s.Nodes[0].Watchers = idsOf(130)
		s.Nodes[2].Holders = idsOf(130, 300)
		s.Nodes[3] = impl.Node{Path: []byte("/a/b/own"), Owner: 300}
		s.Sessions = s.Sessions[1:]
	}, impl.Reply{})
	wantDone(t, "close of another", ordinaryState(), ofSession(impl.OpClose, 130), func(s *impl.State) {
		s.Nodes[0].Watchers = idsOf(1)
		s.Nodes[1] = impl.Node{Path: []byte("/a-b")}
		s.Nodes[2].Holders = idsOf(1, 300)
		dropSession(s, 130)
	}, impl.Reply{})
	wantDone(t, "close of an owner", ordinaryState(), ofSession(impl.OpClose, 300), func(s *impl.State) {
		s.Nodes[2].Holders, s.Nodes[2].Watchers = idsOf(1, 130), nil
		dropNode(s, "/a/b/own")
		s.Sessions[0].Queue = append(s.Sessions[0].Queue, eventOf(impl.EvDeleted, "/a/b/own"))
		s.Sessions = s.Sessions[:2]
	}, impl.Reply{})
}

func TestApplyCreate(t *testing.T) {
	created := []struct {
		path  string
		flag  int
		value string
		owner uint64
	}{
		{"/new", 0, "value", 0},
		{"/new", 1, "value", 130},
		{"/new", 1, "", 130},
		{"/-", 0, "", 0},
		{"/z_9/new", 0, string(someBytes(impl.MaxValue)), 0},
		{"/a/b/new", 1, "\x00\xff", 130},
		{"/a-b/under-a-lock-of", 0, "x", 0},
		{"/a/watched", 1, "x", 130},
	}
	for _, c := range created {
		wantDone(t, fmt.Sprintf("create %s with flag %d", c.path, c.flag), ordinaryState(), createOf(130, c.path, c.flag, c.value), func(s *impl.State) {
			putNode(s, impl.Node{Path: []byte(c.path), Value: []byte(c.value), Owner: c.owner})
		}, impl.Reply{})
	}
}

func TestApplyDelete(t *testing.T) {
	for _, id := range idsOf(1, 130, 300) {
		wantDone(t, "delete a node without a lock", ordinaryState(), onNode(impl.OpDelete, id, "/z_9"), func(s *impl.State) { dropNode(s, "/z_9") }, impl.Reply{})
	}
	wantDone(t, "delete by the holder", ordinaryState(), onNode(impl.OpDelete, 130, "/a-b"), func(s *impl.State) { dropNode(s, "/a-b") }, impl.Reply{})
	wantDone(t, "delete by the holder, not the owner", ordinaryState(), onNode(impl.OpDelete, 1, "/a/b/own"), func(s *impl.State) {
		dropNode(s, "/a/b/own")
		s.Sessions[0].Queue = append(s.Sessions[0].Queue, eventOf(impl.EvDeleted, "/a/b/own"))
	}, impl.Reply{})
}

func TestApplyGet(t *testing.T) {
	replies := []struct {
		path  string
		reply impl.Reply
	}{
		{"/a", impl.Reply{Data: []byte("hello")}},
		{"/a-b", impl.Reply{Num: impl.ModeExclusive, Epoch: 2, Gen: 400}},
		{"/a/b", impl.Reply{Num: impl.ModeShared, Data: []byte{0, 128, 255}}},
		{"/a/b/own", impl.Reply{Num: impl.ModeExclusive, Id: 300, Epoch: 3, Gen: 500}},
		{"/z_9", impl.Reply{Data: someBytes(impl.MaxValue)}},
	}
	for _, r := range replies {
		wantDone(t, "get "+r.path, ordinaryState(), onPath(impl.OpGet, r.path), nothing, r.reply)
	}
}

func TestApplySet(t *testing.T) {
	wantDone(t, "set a watched node", ordinaryState(), setOf(300, "/a", "new"), func(s *impl.State) {
		s.Nodes[0].Value, s.Nodes[0].Watchers = []byte("new"), nil
		s.Sessions[0].Queue = append(s.Sessions[0].Queue, eventOf(impl.EvChanged, "/a"))
	}, impl.Reply{})
	wantDone(t, "set by the holder", ordinaryState(), setOf(130, "/a-b", "new"), func(s *impl.State) { s.Nodes[1].Value = []byte("new") }, impl.Reply{})
	wantDone(t, "set to nothing", ordinaryState(), setOf(1, "/z_9", ""), func(s *impl.State) { s.Nodes[4].Value = nil }, impl.Reply{})
	wantDone(t, "set to the same", ordinaryState(), setOf(1, "/a", "hello"), func(s *impl.State) {
		s.Nodes[0].Watchers = nil
		s.Sessions[0].Queue = append(s.Sessions[0].Queue, eventOf(impl.EvChanged, "/a"))
	}, impl.Reply{})
}

func TestApplyLock(t *testing.T) {
	wantDone(t, "exclusive", ordinaryState(), lockOf(300, "/a", impl.ModeExclusive), func(s *impl.State) {
		s.Gen = 501
		s.Nodes[0].Mode, s.Nodes[0].Holders, s.Nodes[0].Epoch, s.Nodes[0].Gen = impl.ModeExclusive, idsOf(300), 3, 501
	}, impl.Reply{Epoch: 3, Gen: 501})
	s := wantDone(t, "shared", ordinaryState(), lockOf(130, "/a", impl.ModeShared), func(s *impl.State) {
		s.Nodes[0].Mode, s.Nodes[0].Holders = impl.ModeShared, idsOf(130)
	}, impl.Reply{})
	wantDone(t, "shared by one more", s, lockOf(1, "/a", impl.ModeShared), func(s *impl.State) { s.Nodes[0].Holders = idsOf(1, 130) }, impl.Reply{})
	wantDone(t, "shared by another", s, lockOf(300, "/a", impl.ModeShared), func(s *impl.State) { s.Nodes[0].Holders = idsOf(130, 300) }, impl.Reply{})
}

func TestApplyUnlock(t *testing.T) {
	wantDone(t, "of an exclusive lock", ordinaryState(), onNode(impl.OpUnlock, 130, "/a-b"), func(s *impl.State) {
		s.Nodes[1] = impl.Node{Path: []byte("/a-b")}
	}, impl.Reply{})
	wantDone(t, "of a shared lock", ordinaryState(), onNode(impl.OpUnlock, 130, "/a/b"), func(s *impl.State) { s.Nodes[2].Holders = idsOf(1, 300) }, impl.Reply{})
	wantDone(t, "of another's node", ordinaryState(), onNode(impl.OpUnlock, 1, "/a/b/own"), func(s *impl.State) {
		s.Nodes[3] = impl.Node{Path: []byte("/a/b/own"), Owner: 300}
		s.Sessions[0].Queue = append(s.Sessions[0].Queue, eventOf(impl.EvFreed, "/a/b/own"))
	}, impl.Reply{})
}

func TestApplyCheck(t *testing.T) {
	checks := []struct {
		op  impl.Op
		num int
	}{
		{checkOf(130, "/a-b", 2, 400), 1},
		{checkOf(1, "/a/b/own", 3, 500), 1},
		{checkOf(1, "/a-b", 2, 400), 0},
		{checkOf(300, "/a/b/own", 3, 500), 0},
		{checkOf(130, "/a-b", 3, 400), 0},
		{checkOf(130, "/a-b", 1, 400), 0},
		{checkOf(130, "/a-b", 2, 399), 0},
		{checkOf(130, "/a-b", 2, 401), 0},
		{checkOf(130, "/a-b", 400, 2), 0},
		{checkOf(130, "/a-b", 0, 0), 0},
		{checkOf(130, "/a-b", 2+1<<63, 400), 0},
		{checkOf(130, "/a-b", 2, 400+1<<32), 0},
		{checkOf(1, "/a/b", 0, 0), 0},
		{checkOf(1, "/a", 0, 0), 0},
		{checkOf(130, "/a", 2, 400), 0},
		{checkOf(130, "/none", 2, 400), 0},
		{checkOf(130, "/none", 0, 0), 0},
		{checkOf(130, "/none/below", 0, 0), 0},
		{checkOf(130, "/a-b/below", 2, 400), 0},
	}
	for _, c := range checks {
		wantDone(t, told(c.op), ordinaryState(), c.op, nothing, impl.Reply{Num: c.num})
	}
}

func TestApplyWatch(t *testing.T) {
	watched := []struct {
		id   uint64
		path string
		want []uint64
	}{
		{300, "/a", idsOf(1, 130, 300)},
		{1, "/a", idsOf(1, 130)},
		{130, "/a", idsOf(1, 130)},
		{130, "/a/b", idsOf(130, 300)},
		{130, "/a-b", idsOf(130)},
		{300, "/a/b/own", idsOf(1, 300)},
		{1, "/z_9", idsOf(1)},
	}
	for _, w := range watched {
		what := fmt.Sprintf("watch of %s by %d", w.path, w.id)
		wantDone(t, what, ordinaryState(), onNode(impl.OpWatch, w.id, w.path), func(s *impl.State) { nodeIn(s, w.path).Watchers = w.want }, impl.Reply{})
	}
}

func TestApplyPoll(t *testing.T) {
	for i, id := range idsOf(1, 130, 300) {
		s := wantDone(t, fmt.Sprint("poll of ", id), ordinaryState(), ofSession(impl.OpPoll, id), func(s *impl.State) {
			s.Sessions[i].Queue = nil
		}, impl.Reply{Events: ordinaryState().Sessions[i].Queue})
		wantDone(t, fmt.Sprint("poll again of ", id), s, ofSession(impl.OpPoll, id), nothing, impl.Reply{})
	}
}

func TestApplyList(t *testing.T) {
	wantDone(t, "the root", ordinaryState(), onPath(impl.OpList, "/"), nothing, impl.Reply{Names: textsOf("a", "a-b", "z_9")})
	wantDone(t, "a node", ordinaryState(), onPath(impl.OpList, "/a"), nothing, impl.Reply{Names: textsOf("b")})
	wantDone(t, "a node below", ordinaryState(), onPath(impl.OpList, "/a/b"), nothing, impl.Reply{Names: textsOf("own")})
	wantDone(t, "a node without children", ordinaryState(), onPath(impl.OpList, "/z_9"), nothing, impl.Reply{})
	wantDone(t, "another, owned", ordinaryState(), onPath(impl.OpList, "/a/b/own"), nothing, impl.Reply{})
	wantDone(t, "the root of nothing", impl.State{}, onPath(impl.OpList, "/"), nothing, impl.Reply{})
}

// The names of one parent only, where others stand between them.
func TestListIsAscending(t *testing.T) {
	s := treeOf("/a", "/a-", "/a-/x", "/a/-", "/a/-/y", "/a/-0", "/a/0", "/a/_", "/a/b", "/a/b-", "/a/b-/b", "/a/b/b", "/a/b/b/b", "/a/ba", "/a0", "/aa")
	lists := []struct {
		path  string
		names [][]byte
	}{
		{"/", textsOf("a", "a-", "a0", "aa")},
		{"/a", textsOf("-", "-0", "0", "_", "b", "b-", "ba")},
		{"/a-", textsOf("x")},
		{"/a/-", textsOf("y")},
		{"/a/b", textsOf("b")},
		{"/a/b-", textsOf("b")},
		{"/a/b/b", textsOf("b")},
		{"/a/b/b/b", nil},
		{"/a0", nil},
	}
	for _, l := range lists {
		wantDone(t, "list "+l.path, s, onPath(impl.OpList, l.path), nothing, impl.Reply{Names: l.names})
	}
}

// A list that is empty is the same as nil, in the state and in the request.
func TestApplyTakesEmptyLists(t *testing.T) {
	s := impl.State{Next: 1, Sessions: []impl.Session{{Id: 1, Queue: []impl.Event{}}}, Nodes: []impl.Node{{Path: []byte("/a"), Value: []byte{}, Holders: []uint64{}, Watchers: []uint64{}}}}
	op := impl.Op{Kind: impl.OpOpen, Path: []byte{}, Value: []byte{}}
	wantDone(t, "open", s, op, func(s *impl.State) {
		s.Next = 2
		s.Sessions = append(s.Sessions, impl.Session{Id: 2, Deadline: 10})
	}, impl.Reply{Id: 2, Num: 10})
	op = impl.Op{Kind: impl.OpKeep, Session: 1, Path: []byte{}, Value: []byte{}}
	wantDone(t, "keep", s, op, func(s *impl.State) { s.Sessions[0].Deadline = 10 }, impl.Reply{Num: 10})
}

func TestRequestsThatOnlyAsk(t *testing.T) {
	for _, s := range []impl.State{ordinaryState(), durableOf(ordinaryState())} {
		for _, n := range s.Nodes {
			path := string(n.Path)
			for _, op := range []impl.Op{onPath(impl.OpGet, path), onPath(impl.OpList, path), checkOf(1, path, n.Epoch, n.Gen)} {
				got, r := impl.Apply(s, op)
				if r.Code != impl.CodeOK || told(got) != told(s) {
					t.Errorf("%s: code %d, %s", told(op), r.Code, told(got))
				}
			}
		}
	}
}
