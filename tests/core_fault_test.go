package tests

import (
	"fmt"
	"math"
	"strings"
	"testing"

	"loop.example/s02132/impl"
)

// flaw makes a request have one fault more.
type flaw struct {
	name string
	do   func(op *impl.Op)
}

// formFlaws leave the session and the path as they are, if the kind has them.
func formFlaws(r opRow) []flaw {
	flaws := []flaw{
		{"kind 0", func(op *impl.Op) { op.Kind = 0 }},
		{"kind -1", func(op *impl.Op) { op.Kind = -1 }},
		{"kind 14", func(op *impl.Op) { op.Kind = 14 }},
		{"kind and 256", func(op *impl.Op) { op.Kind += 256 }},
		{"the greatest kind", func(op *impl.Op) { op.Kind = math.MaxInt }},
		{"the least kind", func(op *impl.Op) { op.Kind = math.MinInt }},
		{"flag -1", func(op *impl.Op) { op.Flag = -1 }},
		{"flag 3", func(op *impl.Op) { op.Flag = 3 }},
		{"flag and 256", func(op *impl.Op) { op.Flag += 256 }},
		{"a value too long", func(op *impl.Op) { op.Value = someBytes(impl.MaxValue + 1) }},
	}
	for _, flag := range []int{0, 1, 2} {
		allowed := false
		for _, f := range r.flags {
			allowed = allowed || f == flag
		}
		if !allowed {
			flaws = append(flaws, flaw{fmt.Sprint("flag ", flag), func(op *impl.Op) { op.Flag = flag }})
		}
	}
	if !r.has("S") {
		flaws = append(flaws, flaw{"a session", func(op *impl.Op) { op.Session = 1 }}, flaw{"a great session", func(op *impl.Op) { op.Session = 1 << 63 }})
	}
	if !r.has("P") {
		flaws = append(flaws, flaw{"a path", func(op *impl.Op) { op.Path = []byte("/a") }}, flaw{"a path of a zero", func(op *impl.Op) { op.Path = []byte{0} }})
	}
	if !r.has("V") {
		flaws = append(flaws, flaw{"a value", func(op *impl.Op) { op.Value = []byte("x") }}, flaw{"a value of a zero", func(op *impl.Op) { op.Value = []byte{0} }})
	}
	if !r.has("Q") {
		flaws = append(flaws, flaw{"an epoch", func(op *impl.Op) { op.Epoch = 1 }}, flaw{"a gen", func(op *impl.Op) { op.Gen = 1 << 63 }})
	}
	return flaws
}

func sessionFlaws(r opRow) []flaw {
	if !r.has("S") {
		return nil
	}
	var flaws []flaw
	for _, id := range []uint64{0, 2, 129, 131, 256 + 1, 299, 301, 1<<32 + 1, 1<<63 + 1, math.MaxUint64} {
		flaws = append(flaws, flaw{fmt.Sprint("session ", id), func(op *impl.Op) { op.Session = id }})
	}
	return flaws
}

// wrongPaths are none; those of a slash alone are left out.
func wrongPaths() []string {
	return []string{
		"", "//", "a", "a/b", "/a/", "/a//b", "//a", "/A", "/a b", "/a.b", " /a", "/a ", "/a\n", "/a\x00", "/\xff", "/none/x/", "/a-b/?",
		"/" + strings.Repeat("n", impl.MaxName+1), strings.Repeat("/n", impl.MaxDepth+1), string(someBytes(1000)),
	}
}

func pathFlaws(r opRow) []flaw {
	if !r.has("P") {
		return nil
	}
	var flaws []flaw
	paths := wrongPaths()
	if r.kind != impl.OpList {
		paths = append(paths, "/")
	}
	for _, p := range paths {
		flaws = append(flaws, flaw{fmt.Sprintf("path %q", p), func(op *impl.Op) { op.Path = []byte(p) }})
	}
	return flaws
}

// needsNode goes by the document's list.
func needsNode(kind int) bool {
	switch kind {
	case impl.OpDelete, impl.OpGet, impl.OpSet, impl.OpLock, impl.OpUnlock, impl.OpWatch, impl.OpList:
		return true
	}
	return false
}

func noneFlaws(r opRow) []flaw {
	if !needsNode(r.kind) {
		return nil
	}
	var flaws []flaw
	for _, p := range []string{"/none", "/a/none", "/none/below", "/a-b/none", "/a-", "/z", "/z_9/x", "/gone/x", strings.Repeat("/n", impl.MaxDepth), "/" + strings.Repeat("n", impl.MaxName)} {
		flaws = append(flaws, flaw{fmt.Sprintf("no node %q", p), func(op *impl.Op) { op.Path = []byte(p) }})
	}
	return flaws
}

// unflawed has a request of the kind that would be done in the ordinary state.
func unflawed(r opRow) impl.Op {
	op := r.ordinary()
	if r.has("S") {
		op.Session = 1
	}
	if r.has("P") {
		op.Path = []byte("/z_9")
	}
	switch r.kind {
	case impl.OpCreate:
		op.Path = []byte("/a/new")
	case impl.OpUnlock:
		op.Path = []byte("/a/b/own")
	}
	return op
}

// ownFlawed is a request with a fault that its kind says, in a state.
type ownFlawed struct {
	name string
	s    impl.State
	op   impl.Op
	code int
}

func changedState(do func(s *impl.State)) impl.State {
	s := ordinaryState()
	do(&s)
	return s
}

// crowded has as many sessions and nodes as may be, with the ordinary ones
// among them.
func crowded() impl.State {
	s := ordinaryState()
	s.Next = 1000
	for i := uint64(901); len(s.Sessions) < impl.MaxSessions; i++ {
		s.Sessions = append(s.Sessions, impl.Session{Id: i})
	}
	for i := 0; len(s.Nodes) < impl.MaxNodes; i++ {
		putNode(&s, impl.Node{Path: fmt.Appendf(nil, "/crowd%03d", i)})
	}
	return s
}

func spentCounters(s *impl.State) {
	s.Gen, s.Next = impl.MaxCounter, impl.MaxCounter
}

func ownFlaweds() []ownFlawed {
	s := ordinaryState()
	return []ownFlawed{
		{"open, full", crowded(), impl.Op{Kind: impl.OpOpen}, impl.CodeFull},
		{"open, no number", changedState(spentCounters), impl.Op{Kind: impl.OpOpen}, impl.CodeCounter},
		{"create, there", s, createOf(1, "/z_9", 0, "v"), impl.CodeExists},
		{"create, there, owned", s, createOf(300, "/a/b/own", 1, "v"), impl.CodeExists},
		{"create, no parent", s, createOf(1, "/none/new", 0, "v"), impl.CodeParent},
		{"create, parent's parent", s, createOf(1, "/a/none/new", 0, "v"), impl.CodeParent},
		{"create, the parent owned", s, createOf(1, "/a/b/own/new", 0, "v"), impl.CodeParent},
		{"create, the parent owned by it", s, createOf(300, "/a/b/own/new", 1, "v"), impl.CodeParent},
		{"create, full", crowded(), createOf(1, "/a/new", 0, "v"), impl.CodeFull},
		{"delete, a child", s, onNode(impl.OpDelete, 1, "/a"), impl.CodeChild},
		{"delete, another holds it", s, onNode(impl.OpDelete, 1, "/a-b"), impl.CodeBusy},
		{"delete, the owner, another holds it", s, onNode(impl.OpDelete, 300, "/a/b/own"), impl.CodeBusy},
		{"set, another holds it", s, setOf(1, "/a-b", "v"), impl.CodeBusy},
		{"set, the owner, another holds it", s, setOf(300, "/a/b/own", "v"), impl.CodeBusy},
		{"lock, another holds it", s, lockOf(1, "/a-b", impl.ModeExclusive), impl.CodeBusy},
		{"lock shared, another holds it", s, lockOf(1, "/a-b", impl.ModeShared), impl.CodeBusy},
		{"lock, holds it", s, lockOf(130, "/a-b", impl.ModeExclusive), impl.CodeBusy},
		{"lock shared, holds it", s, lockOf(130, "/a-b", impl.ModeShared), impl.CodeBusy},
		{"lock, holds it shared", s, lockOf(130, "/a/b", impl.ModeExclusive), impl.CodeBusy},
		{"lock shared, holds it shared", s, lockOf(130, "/a/b", impl.ModeShared), impl.CodeBusy},
		{"lock, no generation", changedState(spentCounters), lockOf(1, "/a", impl.ModeExclusive), impl.CodeCounter},
		{"unlock, free", s, onNode(impl.OpUnlock, 1, "/a"), impl.CodeFree},
		{"unlock, another holds it", s, onNode(impl.OpUnlock, 1, "/a-b"), impl.CodeFree},
		{"unlock, the owner", s, onNode(impl.OpUnlock, 300, "/a/b/own"), impl.CodeFree},
	}
}

func flawedBy(op impl.Op, flaws ...flaw) impl.Op {
	for _, f := range flaws {
		f.do(&op)
	}
	return op
}

// flawsInOrder has the faults that kinds share, in the order in which they are
// looked for.
func flawsInOrder(r opRow) []struct {
	code  int
	flaws []flaw
} {
	return []struct {
		code  int
		flaws []flaw
	}{
		{impl.CodeForm, formFlaws(r)},
		{impl.CodeSession, sessionFlaws(r)},
		{impl.CodePath, pathFlaws(r)},
		{impl.CodeNone, noneFlaws(r)},
	}
}

func TestRequestsWithoutAFault(t *testing.T) {
	for _, r := range opRows {
		if _, reply := impl.Apply(ordinaryState(), unflawed(r)); reply.Code != impl.CodeOK {
			t.Errorf("kind %d: code %d", r.kind, reply.Code)
		}
	}
}

func TestOneFault(t *testing.T) {
	for _, r := range opRows {
		for _, f := range flawsInOrder(r) {
			for _, x := range f.flaws {
				wantFault(t, fmt.Sprintf("kind %d, %s", r.kind, x.name), ordinaryState(), flawedBy(unflawed(r), x), f.code)
			}
		}
	}
	for _, o := range ownFlaweds() {
		wantFault(t, o.name, o.s, o.op, o.code)
	}
}

// Of two faults that all kinds share the first is told.
func TestTwoFaults(t *testing.T) {
	for _, r := range opRows {
		order := flawsInOrder(r)
		for i, first := range order {
			for _, second := range order[i+1:] {
				// The path is one thing: no path is not also none of a node.
				if first.code == impl.CodePath {
					continue
				}
				for _, x := range first.flaws {
					for _, y := range second.flaws {
						what := fmt.Sprintf("kind %d, %s and %s", r.kind, x.name, y.name)
						wantFault(t, what, ordinaryState(), flawedBy(unflawed(r), y, x), first.code)
					}
				}
			}
		}
	}
}

func TestThreeFaults(t *testing.T) {
	for _, r := range opRows {
		for _, x := range formFlaws(r) {
			for _, y := range sessionFlaws(r) {
				for _, z := range append(pathFlaws(r)[:min(3, len(pathFlaws(r)))], noneFlaws(r)...) {
					what := fmt.Sprintf("kind %d, %s, %s and %s", r.kind, x.name, y.name, z.name)
					wantFault(t, what, ordinaryState(), flawedBy(unflawed(r), z, y, x), impl.CodeForm)
				}
			}
		}
	}
}

// A fault that all kinds share goes before what the kind says.
func TestSharedFaultBeforeItsOwn(t *testing.T) {
	for _, o := range ownFlaweds() {
		r := opRows[o.op.Kind-1]
		for _, f := range flawsInOrder(r) {
			for _, x := range f.flaws {
				op := flawedBy(o.op, x)
				// In the crowd there is a session with this number.
				if f.code == impl.CodeSession && knows(o.s, op.Session) {
					continue
				}
				wantFault(t, o.name+", "+x.name, o.s, op, f.code)
			}
		}
	}
}

// The faults that a kind says, two at once. (A node that is there has a parent
// that can have it, so these two never meet.)
func TestTwoFaultsOfAKind(t *testing.T) {
	spent := crowded()
	spentCounters(&spent)
	wantFault(t, "open: full before counter", spent, impl.Op{Kind: impl.OpOpen}, impl.CodeFull)
	wantFault(t, "create: there before full", spent, createOf(1, "/a", 0, ""), impl.CodeExists)
	wantFault(t, "create: there and owned before full", spent, createOf(1, "/a/b/own", 0, ""), impl.CodeExists)
	wantFault(t, "create: parent before full", spent, createOf(1, "/none/x", 0, ""), impl.CodeParent)
	wantFault(t, "create: owned parent before full", spent, createOf(300, "/a/b/own/x", 1, ""), impl.CodeParent)

	s := changedState(func(s *impl.State) {
		s.Nodes[0].Mode, s.Nodes[0].Holders, s.Nodes[0].Epoch, s.Nodes[0].Gen = impl.ModeExclusive, idsOf(130), 1, 1
	})
	wantFault(t, "delete: child before busy", s, onNode(impl.OpDelete, 1, "/a"), impl.CodeChild)
	wantFault(t, "delete: child though it holds the lock", s, onNode(impl.OpDelete, 130, "/a"), impl.CodeChild)
	wantFault(t, "delete: child before busy, shared", s, onNode(impl.OpDelete, 1, "/a/b"), impl.CodeChild)

	for _, id := range idsOf(1, 130, 300) {
		for _, path := range []string{"/a-b", "/a/b", "/a/b/own"} {
			wantFault(t, "lock: busy before counter", spent, lockOf(id, path, impl.ModeExclusive), impl.CodeBusy)
		}
	}
}

// What is not well formed is so whatever the state, as long as that is valid.
func TestNoFormInAnyState(t *testing.T) {
	for i, s := range append(someStates(), crowded(), impl.State{}) {
		for _, r := range opRows {
			for _, x := range formFlaws(r) {
				wantFault(t, fmt.Sprintf("state %d, kind %d, %s", i, r.kind, x.name), s, flawedBy(unflawed(r), x), impl.CodeForm)
			}
		}
	}
}

// wrongStates has for each rule of a valid state one that breaks it.
func wrongStates() map[string]impl.State {
	return map[string]impl.State{
		"Now -1":               {Now: -1},
		"Now above its limit":  {Now: impl.MaxNow + 1},
		"Next too great":       changedState(func(s *impl.State) { s.Next = impl.MaxCounter + 1 }),
		"a session above Next": changedState(func(s *impl.State) { s.Next = 299 }),
		"too many sessions":    flatState(impl.MaxSessions+1, 1),
		"too many nodes":       flatState(1, impl.MaxNodes+1),
		"a holder of no lock":  changedState(func(s *impl.State) { s.Nodes[0].Holders = idsOf(1) }),
		"two hold exclusively": changedState(func(s *impl.State) { s.Nodes[1].Holders = idsOf(1, 130) }),
		"a stranger owns":      changedState(func(s *impl.State) { s.Nodes[4].Owner = 2 }),
		"a stranger watches":   changedState(func(s *impl.State) { s.Nodes[4].Watchers = idsOf(2) }),
		"an owned parent":      changedState(func(s *impl.State) { s.Nodes[0].Owner = 1 }),
		"no parent":            treeOf("/a", "/b/c"),
		"falling":              treeOf("/b", "/a"),
		"a deadline too early": changedState(func(s *impl.State) { s.Sessions[2].Deadline = -1 }),
		"a deadline too late":  changedState(func(s *impl.State) { s.Sessions[2].Deadline = impl.MaxNow + 16 }),
		"a full queue":         changedState(func(s *impl.State) { s.Sessions[2].Queue = queueOf("/a", "/a", "/a", "/a", "/a", "/a", "/a", "/a") }),
	}
}

func TestStateThatIsNotValid(t *testing.T) {
	for name, s := range wrongStates() {
		if soundState(s) {
			t.Fatalf("%s: the test itself is wrong", name)
		}
		for _, r := range opRows {
			ops := []impl.Op{r.bare(), r.ordinary(), unflawed(r), {Kind: r.kind, Flag: 99}, {Kind: r.kind + 100}}
			for _, op := range ops {
				got, reply := impl.Apply(s, op)
				if told(reply) != told(impl.Reply{Code: impl.CodeBad}) || told(got) != told(impl.State{}) {
					t.Errorf("%s, kind %d: %s, %s", name, op.Kind, told(reply), told(got))
				}
			}
		}
	}
}
