package tests

import (
	"bytes"
	"slices"
	"strings"
	"testing"

	"loop.example/s02132/impl"
)

func ofSession(kind int, id uint64) impl.Op {
	return impl.Op{Kind: kind, Session: id}
}

func onPath(kind int, path string) impl.Op {
	return impl.Op{Kind: kind, Path: []byte(path)}
}

func onNode(kind int, id uint64, path string) impl.Op {
	return impl.Op{Kind: kind, Session: id, Path: []byte(path)}
}

func createOf(id uint64, path string, flag int, value string) impl.Op {
	return impl.Op{Kind: impl.OpCreate, Session: id, Path: []byte(path), Flag: flag, Value: []byte(value)}
}

func setOf(id uint64, path string, value string) impl.Op {
	return impl.Op{Kind: impl.OpSet, Session: id, Path: []byte(path), Value: []byte(value)}
}

func lockOf(id uint64, path string, mode int) impl.Op {
	return impl.Op{Kind: impl.OpLock, Session: id, Path: []byte(path), Flag: mode}
}

func checkOf(id uint64, path string, epoch, gen uint64) impl.Op {
	return impl.Op{Kind: impl.OpCheck, Session: id, Path: []byte(path), Epoch: epoch, Gen: gen}
}

func eventOf(kind int, path string) impl.Event {
	return impl.Event{Kind: kind, Path: []byte(path)}
}

// wantAnswer asks for the whole state and the whole reply.
func wantAnswer(t *testing.T, what string, s impl.State, op impl.Op, want impl.State, reply impl.Reply) impl.State {
	t.Helper()
	if !soundState(s) || !soundState(want) {
		t.Fatalf("%s: the test itself is wrong", what)
	}
	got, r := impl.Apply(s, op)
	if told(r) != told(reply) {
		t.Errorf("%s: reply %s, want %s", what, told(r), told(reply))
	}
	if told(got) != told(want) {
		t.Errorf("%s: state %s, want %s", what, told(got), told(want))
	}
	if !impl.ValidState(got) {
		t.Errorf("%s: the state after it is not valid", what)
	}
	return got
}

// wantDone asks that the request does just this to the state.
func wantDone(t *testing.T, what string, s impl.State, op impl.Op, do func(s *impl.State), reply impl.Reply) impl.State {
	t.Helper()
	want := roomyOf(s)
	do(&want)
	return wantAnswer(t, what, s, op, want, reply)
}

func nothing(*impl.State) {}

func wantFault(t *testing.T, what string, s impl.State, op impl.Op, code int) {
	t.Helper()
	wantAnswer(t, what, s, op, s, impl.Reply{Code: code})
}

// nodeIn is the node with the path; there must be one.
func nodeIn(s *impl.State, path string) *impl.Node {
	return &s.Nodes[nodeAt(*s, path)]
}

func sessionIn(s *impl.State, id uint64) *impl.Session {
	return &s.Sessions[slices.IndexFunc(s.Sessions, func(c impl.Session) bool { return c.Id == id })]
}

func nodeAt(s impl.State, path string) int {
	return slices.IndexFunc(s.Nodes, func(n impl.Node) bool { return string(n.Path) == path })
}

func dropNode(s *impl.State, path string) {
	s.Nodes = slices.DeleteFunc(s.Nodes, func(n impl.Node) bool { return string(n.Path) == path })
}

func dropSession(s *impl.State, id uint64) {
	s.Sessions = slices.DeleteFunc(s.Sessions, func(c impl.Session) bool { return c.Id == id })
}

func putNode(s *impl.State, n impl.Node) {
	s.Nodes = append(s.Nodes, n)
	slices.SortFunc(s.Nodes, func(a, b impl.Node) int { return bytes.Compare(a.Path, b.Path) })
}

func without(ids []uint64, id uint64) []uint64 {
	return slices.DeleteFunc(slices.Clone(ids), func(i uint64) bool { return i == id })
}

func with(ids []uint64, id uint64) []uint64 {
	out := append(without(ids, id), id)
	slices.Sort(out)
	return out
}

// formed is the document's well-formed request, by the rows of its table.
func formed(op impl.Op) bool {
	if op.Kind < 1 || op.Kind > len(opRows) {
		return false
	}
	r := opRows[op.Kind-1]
	return (r.has("S") || op.Session == 0) && (r.has("P") || len(op.Path) == 0) && slices.Contains(r.flags, op.Flag) &&
		(len(op.Value) == 0 || r.has("V") && len(op.Value) <= 40) && (r.has("Q") || op.Epoch == 0 && op.Gen == 0)
}

// secondFault looks for the faults of a request in the document's order.
func secondFault(s impl.State, op impl.Op) int {
	if !formed(op) {
		return impl.CodeForm
	}
	r := opRows[op.Kind-1]
	if r.has("S") && !knows(s, op.Session) {
		return impl.CodeSession
	}
	if r.has("P") && !(op.Kind == impl.OpList && string(op.Path) == "/") {
		if !pathForm.Match(op.Path) {
			return impl.CodePath
		}
		if op.Kind != impl.OpCreate && op.Kind != impl.OpCheck && nodeAt(s, string(op.Path)) < 0 {
			return impl.CodeNone
		}
	}
	return ownFault(s, op)
}

func ownFault(s impl.State, op impl.Op) int {
	var n impl.Node
	if i := nodeAt(s, string(op.Path)); i >= 0 {
		n = s.Nodes[i]
	}
	holds := slices.Contains(n.Holders, op.Session)
	switch op.Kind {
	case impl.OpOpen:
		return firstOf(len(s.Sessions) == 50, impl.CodeFull, s.Next == 1<<62, impl.CodeCounter)
	case impl.OpCreate:
		return firstOf(len(n.Path) > 0, impl.CodeExists, !hasParent(s, op.Path), impl.CodeParent, len(s.Nodes) == 200, impl.CodeFull)
	case impl.OpDelete:
		child := slices.ContainsFunc(s.Nodes, func(c impl.Node) bool { return string(parentForm.FindSubmatch(c.Path)[1]) == string(op.Path) })
		return firstOf(child, impl.CodeChild, n.Mode != 0 && !(holds && len(n.Holders) == 1), impl.CodeBusy)
	case impl.OpSet:
		return firstOf(n.Mode == 1 && !holds, impl.CodeBusy)
	case impl.OpLock:
		if op.Flag == 2 {
			return firstOf(holds || n.Mode == 1, impl.CodeBusy)
		}
		return firstOf(holds || n.Mode != 0, impl.CodeBusy, s.Gen == 1<<62, impl.CodeCounter)
	case impl.OpUnlock:
		return firstOf(!holds, impl.CodeFree)
	}
	return impl.CodeOK
}

// firstOf goes through pairs of a condition and a code.
func firstOf(pairs ...any) int {
	for i := 0; i < len(pairs); i += 2 {
		if pairs[i].(bool) {
			return pairs[i+1].(int)
		}
	}
	return impl.CodeOK
}

// secondTell gives an event to those who watch the node.
func secondTell(s *impl.State, kind int, path string) {
	n := nodeIn(s, path)
	for _, id := range n.Watchers {
		c := sessionIn(s, id)
		switch len(c.Queue) {
		case 8:
		case 7:
			c.Queue = append(c.Queue, impl.Event{Kind: impl.EvOverflow})
		default:
			c.Queue = append(c.Queue, eventOf(kind, path))
		}
	}
	n.Watchers = nil
}

func secondRelease(s *impl.State, id uint64, path string) {
	n := nodeIn(s, path)
	if n.Holders = without(n.Holders, id); len(n.Holders) == 0 {
		n.Mode, n.Epoch, n.Gen = 0, 0, 0
		secondTell(s, impl.EvFreed, path)
	}
}

func secondClose(s *impl.State, id uint64) {
	var paths []string
	for i, n := range s.Nodes {
		s.Nodes[i].Watchers = without(n.Watchers, id)
		paths = append(paths, string(n.Path))
	}
	for _, p := range paths {
		if slices.Contains(nodeIn(s, p).Holders, id) {
			secondRelease(s, id, p)
		}
		if nodeIn(s, p).Owner == id {
			secondTell(s, impl.EvDeleted, p)
			dropNode(s, p)
		}
	}
	dropSession(s, id)
}

func secondNames(s impl.State, path string) [][]byte {
	var names []string
	for _, n := range s.Nodes {
		name, below := strings.CutPrefix(string(n.Path), strings.TrimSuffix(path, "/")+"/")
		if below && !strings.Contains(name, "/") {
			names = append(names, name)
		}
	}
	slices.Sort(names)
	return textsOf(names...)
}

// secondAct carries out a request that has no fault.
func secondAct(s *impl.State, op impl.Op) impl.Reply {
	path := string(op.Path)
	switch op.Kind {
	case impl.OpOpen:
		s.Next++
		s.Sessions = append(s.Sessions, impl.Session{Id: s.Next, Deadline: s.Now + 10})
		return impl.Reply{Id: s.Next, Num: s.Now + 10}
	case impl.OpKeep:
		c := sessionIn(s, op.Session)
		c.Deadline = max(c.Deadline, s.Now+10)
		return impl.Reply{Num: c.Deadline}
	case impl.OpClose:
		secondClose(s, op.Session)
	case impl.OpCreate:
		putNode(s, impl.Node{Path: op.Path, Value: op.Value, Owner: op.Session * uint64(op.Flag)})
	case impl.OpDelete:
		secondTell(s, impl.EvDeleted, path)
		dropNode(s, path)
	case impl.OpGet:
		n := nodeIn(s, path)
		return impl.Reply{Id: n.Owner, Epoch: n.Epoch, Gen: n.Gen, Num: n.Mode, Data: n.Value}
	case impl.OpSet:
		nodeIn(s, path).Value = op.Value
		secondTell(s, impl.EvChanged, path)
	case impl.OpLock:
		n := nodeIn(s, path)
		n.Mode, n.Holders = op.Flag, with(n.Holders, op.Session)
		if op.Flag == 1 {
			s.Gen++
			n.Epoch, n.Gen = s.Epoch, s.Gen
			return impl.Reply{Epoch: s.Epoch, Gen: s.Gen}
		}
	case impl.OpUnlock:
		secondRelease(s, op.Session, path)
	case impl.OpCheck:
		i := nodeAt(*s, path)
		if i >= 0 && s.Nodes[i].Mode == 1 && s.Nodes[i].Holders[0] == op.Session && s.Nodes[i].Epoch == op.Epoch && s.Nodes[i].Gen == op.Gen {
			return impl.Reply{Num: 1}
		}
	case impl.OpWatch:
		n := nodeIn(s, path)
		n.Watchers = with(n.Watchers, op.Session)
	case impl.OpPoll:
		c := sessionIn(s, op.Session)
		events := c.Queue
		c.Queue = nil
		return impl.Reply{Events: events}
	case impl.OpList:
		return impl.Reply{Names: secondNames(*s, path)}
	}
	return impl.Reply{}
}

// secondApply is a second core, over the lists of a state as they are.
func secondApply(s impl.State, op impl.Op) (impl.State, impl.Reply) {
	if !soundState(s) {
		return impl.State{}, impl.Reply{Code: impl.CodeBad}
	}
	if code := secondFault(s, op); code != impl.CodeOK {
		return s, impl.Reply{Code: code}
	}
	after := roomyOf(s)
	return after, secondAct(&after, roomyOf(op))
}

// run carries out requests one after another; each must be done.
func run(t *testing.T, s impl.State, ops ...impl.Op) impl.State {
	t.Helper()
	for i, op := range ops {
		next, r := impl.Apply(s, op)
		if r.Code != impl.CodeOK {
			t.Fatalf("request %d, %s: code %d", i, told(op), r.Code)
		}
		s = next
	}
	return s
}
