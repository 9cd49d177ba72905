package tests

import (
	"fmt"
	"testing"

	"loop.example/s02132/impl"
)

const (
	free      = impl.ModeFree
	exclusive = impl.ModeExclusive
	shared    = impl.ModeShared
)

// locked has the sessions 1 to 4 and the node /n, locked so.
func locked(mode int, holders ...uint64) impl.State {
	s := impl.State{Epoch: 5, Gen: 20, Next: 4, Now: 3}
	for id := range uint64(4) {
		s.Sessions = append(s.Sessions, impl.Session{Id: id + 1})
	}
	n := impl.Node{Path: []byte("/n"), Value: []byte("v"), Mode: mode, Holders: holders}
	if mode == exclusive {
		n.Epoch, n.Gen = 4, 7
	}
	s.Nodes = []impl.Node{n}
	return s
}

func freed(s *impl.State) {
	s.Nodes[0] = impl.Node{Path: []byte("/n"), Value: []byte("v"), Watchers: s.Nodes[0].Watchers}
}

func heldShared(holders ...uint64) func(s *impl.State) {
	return func(s *impl.State) { s.Nodes[0].Mode, s.Nodes[0].Holders = shared, holders }
}

func gone(s *impl.State) {
	s.Nodes = nil
}

func TestLockExclusive(t *testing.T) {
	for _, id := range idsOf(1, 2, 3, 4) {
		wantDone(t, "a free lock", locked(free), lockOf(id, "/n", exclusive), func(s *impl.State) {
			s.Gen = 21
			s.Nodes[0].Mode, s.Nodes[0].Holders, s.Nodes[0].Epoch, s.Nodes[0].Gen = exclusive, idsOf(id), 5, 21
		}, impl.Reply{Epoch: 5, Gen: 21})
		wantFault(t, "held exclusively", locked(exclusive, 2), lockOf(id, "/n", exclusive), impl.CodeBusy)
		wantFault(t, "held shared by one", locked(shared, 2), lockOf(id, "/n", exclusive), impl.CodeBusy)
		wantFault(t, "held shared by three", locked(shared, 1, 2, 4), lockOf(id, "/n", exclusive), impl.CodeBusy)
	}
}

func TestLockShared(t *testing.T) {
	for _, id := range idsOf(1, 2, 3, 4) {
		wantDone(t, "a free lock", locked(free), lockOf(id, "/n", shared), heldShared(id), impl.Reply{})
		wantFault(t, "held exclusively", locked(exclusive, 2), lockOf(id, "/n", shared), impl.CodeBusy)
	}
	wantFault(t, "held shared by it", locked(shared, 2), lockOf(2, "/n", shared), impl.CodeBusy)
	wantFault(t, "held shared by it among others", locked(shared, 1, 3, 4), lockOf(3, "/n", shared), impl.CodeBusy)
	wantDone(t, "one before", locked(shared, 2, 3), lockOf(1, "/n", shared), heldShared(1, 2, 3), impl.Reply{})
	wantDone(t, "one between", locked(shared, 1, 3), lockOf(2, "/n", shared), heldShared(1, 2, 3), impl.Reply{})
	wantDone(t, "one behind", locked(shared, 1, 3), lockOf(4, "/n", shared), heldShared(1, 3, 4), impl.Reply{})
}

func TestUnlock(t *testing.T) {
	for _, id := range idsOf(1, 2, 3, 4) {
		wantFault(t, "a free lock", locked(free), onNode(impl.OpUnlock, id, "/n"), impl.CodeFree)
		if id != 2 {
			wantFault(t, "another's exclusive lock", locked(exclusive, 2), onNode(impl.OpUnlock, id, "/n"), impl.CodeFree)
			wantFault(t, "another's shared lock", locked(shared, 2), onNode(impl.OpUnlock, id, "/n"), impl.CodeFree)
		}
	}
	wantFault(t, "others' shared lock", locked(shared, 1, 2, 4), onNode(impl.OpUnlock, 3, "/n"), impl.CodeFree)
	wantDone(t, "its exclusive lock", locked(exclusive, 2), onNode(impl.OpUnlock, 2, "/n"), freed, impl.Reply{})
	wantDone(t, "its shared lock", locked(shared, 2), onNode(impl.OpUnlock, 2, "/n"), freed, impl.Reply{})
	wantDone(t, "the first of several", locked(shared, 1, 2, 4), onNode(impl.OpUnlock, 1, "/n"), heldShared(2, 4), impl.Reply{})
	wantDone(t, "the second of several", locked(shared, 1, 2, 4), onNode(impl.OpUnlock, 2, "/n"), heldShared(1, 4), impl.Reply{})
	wantDone(t, "the last but one", locked(shared, 1, 4), onNode(impl.OpUnlock, 1, "/n"), heldShared(4), impl.Reply{})
}

func TestDeleteUnderALock(t *testing.T) {
	for _, id := range idsOf(1, 2, 3, 4) {
		wantDone(t, "a free lock", locked(free), onNode(impl.OpDelete, id, "/n"), gone, impl.Reply{})
		wantFault(t, "shared by several", locked(shared, 1, 2, 4), onNode(impl.OpDelete, id, "/n"), impl.CodeBusy)
		if id != 2 {
			wantFault(t, "another's exclusive lock", locked(exclusive, 2), onNode(impl.OpDelete, id, "/n"), impl.CodeBusy)
			wantFault(t, "another's shared lock", locked(shared, 2), onNode(impl.OpDelete, id, "/n"), impl.CodeBusy)
		}
	}
	wantDone(t, "its exclusive lock", locked(exclusive, 2), onNode(impl.OpDelete, 2, "/n"), gone, impl.Reply{})
	wantDone(t, "its shared lock", locked(shared, 2), onNode(impl.OpDelete, 2, "/n"), gone, impl.Reply{})
}

func TestSetUnderALock(t *testing.T) {
	set := func(s *impl.State) { s.Nodes[0].Value = []byte("w") }
	for _, id := range idsOf(1, 2, 3, 4) {
		wantDone(t, "a free lock", locked(free), setOf(id, "/n", "w"), set, impl.Reply{})
		wantDone(t, "shared by one", locked(shared, 2), setOf(id, "/n", "w"), set, impl.Reply{})
		wantDone(t, "shared by several", locked(shared, 1, 2, 4), setOf(id, "/n", "w"), set, impl.Reply{})
		if id != 2 {
			wantFault(t, "another's exclusive lock", locked(exclusive, 2), setOf(id, "/n", "w"), impl.CodeBusy)
		}
	}
	wantDone(t, "its exclusive lock", locked(exclusive, 2), setOf(2, "/n", "w"), set, impl.Reply{})
}

func TestWatchAndListUnderALock(t *testing.T) {
	for _, s := range []impl.State{locked(free), locked(exclusive, 2), locked(shared, 1, 2)} {
		wantDone(t, "watch", s, onNode(impl.OpWatch, 3, "/n"), func(s *impl.State) { s.Nodes[0].Watchers = idsOf(3) }, impl.Reply{})
		wantDone(t, "list", s, onPath(impl.OpList, "/n"), nothing, impl.Reply{})
		wantDone(t, "create below", s, createOf(3, "/n/m", 0, ""), func(s *impl.State) { putNode(s, impl.Node{Path: []byte("/n/m")}) }, impl.Reply{})
	}
}

// One lock is no hindrance for another, not even of the parent.
func TestLocksOfSeveralNodes(t *testing.T) {
	s := locked(exclusive, 2)
	putNode(&s, impl.Node{Path: []byte("/m")})
	putNode(&s, impl.Node{Path: []byte("/n/m")})
	for _, path := range []string{"/m", "/n/m"} {
		wantDone(t, path, s, lockOf(1, path, exclusive), func(s *impl.State) {
			s.Gen = 21
			n := nodeIn(s, path)
			n.Mode, n.Holders, n.Epoch, n.Gen = exclusive, idsOf(1), 5, 21
		}, impl.Reply{Epoch: 5, Gen: 21})
		wantDone(t, path, s, lockOf(2, path, shared), func(s *impl.State) {
			n := nodeIn(s, path)
			n.Mode, n.Holders = shared, idsOf(2)
		}, impl.Reply{})
	}
}

func TestLockAtTheLastGeneration(t *testing.T) {
	s := locked(free)
	s.Gen = impl.MaxCounter - 1
	putNode(&s, impl.Node{Path: []byte("/m")})
	s = wantDone(t, "the last generation", s, lockOf(1, "/m", exclusive), func(s *impl.State) {
		s.Gen = impl.MaxCounter
		s.Nodes[0] = impl.Node{Path: []byte("/m"), Mode: exclusive, Holders: idsOf(1), Epoch: 5, Gen: impl.MaxCounter}
	}, impl.Reply{Epoch: 5, Gen: impl.MaxCounter})
	wantFault(t, "no generation left", s, lockOf(1, "/n", exclusive), impl.CodeCounter)
	wantDone(t, "shared without one", s, lockOf(1, "/n", shared), func(s *impl.State) {
		s.Nodes[1].Mode, s.Nodes[1].Holders = shared, idsOf(1)
	}, impl.Reply{})
	wantDone(t, "let go without one", s, onNode(impl.OpUnlock, 1, "/m"), func(s *impl.State) { s.Nodes[0] = impl.Node{Path: []byte("/m")} }, impl.Reply{})
	wantDone(t, "the last one is good", s, checkOf(1, "/m", 5, impl.MaxCounter), nothing, impl.Reply{Num: 1})
}

// The sequencer has the epoch of the state when the lock was taken.
func TestSequencersOverEpochs(t *testing.T) {
	s := locked(exclusive, 2)
	putNode(&s, impl.Node{Path: []byte("/m")})
	for _, epoch := range []uint64{5, 6, 1000, impl.MaxCounter} {
		s.Epoch = epoch
		got, r := impl.Apply(s, lockOf(1, "/m", exclusive))
		if told(r) != told(impl.Reply{Epoch: epoch, Gen: 21}) {
			t.Errorf("epoch %d: %s", epoch, told(r))
		}
		wantDone(t, fmt.Sprint("the new one in epoch ", epoch), got, checkOf(1, "/m", epoch, 21), nothing, impl.Reply{Num: 1})
		wantDone(t, fmt.Sprint("the old one in epoch ", epoch), got, checkOf(2, "/n", 4, 7), nothing, impl.Reply{Num: 1})
		wantDone(t, fmt.Sprint("the old one as if of epoch ", epoch), got, checkOf(2, "/n", epoch, 7), nothing, impl.Reply{})
	}
}

// The sequencer is good as long as the lock is held, and not afterwards.
func TestLifeOfASequencer(t *testing.T) {
	ends := map[string][]impl.Op{
		"unlock":            {onNode(impl.OpUnlock, 1, "/n")},
		"delete":            {onNode(impl.OpDelete, 1, "/n")},
		"delete and create": {onNode(impl.OpDelete, 1, "/n"), createOf(1, "/n", 0, "v")},
		"taken again":       {onNode(impl.OpUnlock, 1, "/n"), lockOf(1, "/n", exclusive)},
		"taken by another":  {onNode(impl.OpUnlock, 1, "/n"), lockOf(2, "/n", exclusive)},
		"shared":            {onNode(impl.OpUnlock, 1, "/n"), lockOf(1, "/n", shared)},
	}
	held := run(t, locked(free), lockOf(1, "/n", exclusive))
	lasting := run(t, held, setOf(1, "/n", "w"), onNode(impl.OpWatch, 1, "/n"), ofSession(impl.OpKeep, 1), ofSession(impl.OpClose, 2))
	wantDone(t, "while it is held", lasting, checkOf(1, "/n", 5, 21), nothing, impl.Reply{Num: 1})
	for name, ops := range ends {
		wantDone(t, name, run(t, held, ops...), checkOf(1, "/n", 5, 21), nothing, impl.Reply{})
	}
	closed := run(t, held, ofSession(impl.OpClose, 1))
	wantFault(t, "closed", closed, checkOf(1, "/n", 5, 21), impl.CodeSession)
	wantDone(t, "closed, asked by another", closed, checkOf(2, "/n", 5, 21), nothing, impl.Reply{})
}
