package tests

import (
	"fmt"
	"testing"

	"loop.example/s02132/impl"
)

// asked are the arguments of Apply, answered what it answers.
type asked struct {
	State impl.State
	Op    impl.Op
}

type answered struct {
	State impl.State
	Reply impl.Reply
}

func applied(a asked) any {
	s, r := impl.Apply(a.State, a.Op)
	return answered{s, r}
}

func TestApplyHasOwnMemory(t *testing.T) {
	states := append(someStates(), ordinaryState(), crowded(), flatState(impl.MaxSessions+1, 3), treeOf("/b", "/a"))
	for i, s := range states {
		for _, r := range opRows {
			ops := []impl.Op{r.bare(), r.ordinary(), unflawed(r), flawedBy(unflawed(r), formFlaws(r)[0])}
			for _, op := range ops {
				wantApart(t, fmt.Sprintf("state %d, kind %d", i, r.kind), asked{s, op}, applied)
			}
		}
	}
	for _, o := range ownFlaweds() {
		wantApart(t, o.name, asked{o.s, o.op}, applied)
	}
}

// Every node of the ordinary state, by every session, so that events are told,
// locks let go and nodes deleted.
func TestApplyOverEveryNodeHasOwnMemory(t *testing.T) {
	s := ordinaryState()
	for _, n := range s.Nodes {
		for _, c := range s.Sessions {
			for _, r := range opRows {
				op := r.ordinary()
				if r.has("S") {
					op.Session = c.Id
				}
				if r.has("P") {
					op.Path = n.Path
				}
				wantApart(t, fmt.Sprintf("kind %d of %s by %d", r.kind, n.Path, c.Id), asked{s, op}, applied)
			}
		}
	}
	wantApart(t, "list of the root", asked{s, onPath(impl.OpList, "/")}, applied)
}

// One event is told to several, and each has it for itself.
func TestToldEventsHaveOwnMemory(t *testing.T) {
	s := watched(locked(exclusive, 2), 1, 2, 3, 4)
	ops := []impl.Op{setOf(2, "/n", "w"), onNode(impl.OpDelete, 2, "/n"), onNode(impl.OpUnlock, 2, "/n"), ofSession(impl.OpClose, 2)}
	for _, op := range ops {
		wantApart(t, fmt.Sprint("kind ", op.Kind), asked{s, op}, applied)
	}
	for i := range s.Sessions {
		s.Sessions[i].Queue = queueOfSize(5 + i)
	}
	for _, op := range ops {
		wantApart(t, fmt.Sprint("long queues, kind ", op.Kind), asked{s, op}, applied)
	}
}

// The arguments themselves may share memory: the path is the value, and both are
// a node's in the state.
func TestApplyOverSharedMemory(t *testing.T) {
	ids := idsOf(1, 2, 3, 4)
	s := watched(locked(shared, 1, 2, 3, 4), ids...)
	s.Nodes[0].Holders = ids
	path := s.Nodes[0].Path
	s.Nodes[0].Value = path
	s.Sessions[0].Queue = []impl.Event{{Kind: impl.EvChanged, Path: path}}
	s.Sessions[1].Queue = s.Sessions[0].Queue
	ops := []impl.Op{
		{Kind: impl.OpSet, Session: 1, Path: path, Value: path}, {Kind: impl.OpUnlock, Session: 2, Path: path},
		{Kind: impl.OpClose, Session: 1}, {Kind: impl.OpPoll, Session: 2}, {Kind: impl.OpGet, Path: path},
	}
	for _, op := range ops {
		before := told(s)
		want, reply := secondApply(s, op)
		got, r := impl.Apply(s, op)
		if told(got) != told(want) || told(r) != told(reply) {
			t.Errorf("kind %d: %s, %s, want %s, %s", op.Kind, told(r), told(got), told(reply), told(want))
		}
		if told(s) != before {
			t.Errorf("kind %d writes into the state", op.Kind)
		}
		lists := memories(got, r)
		for i, list := range lists {
			for _, other := range append(lists[i+1:], memories(s, op)...) {
				if overlap(list, other) {
					t.Errorf("kind %d: two lists share memory", op.Kind)
				}
			}
		}
	}
}
