package tests

import (
	"fmt"
	"strings"
	"testing"

	"loop.example/s02132/impl"
)

func TestOpenAtItsLimits(t *testing.T) {
	op := impl.Op{Kind: impl.OpOpen}
	for _, n := range []int{0, 1, impl.MaxSessions - 2, impl.MaxSessions - 1} {
		id := uint64(n) + 1
		wantDone(t, fmt.Sprint("open beside ", n), flatState(n, 0), op, func(s *impl.State) {
			s.Next = id
			s.Sessions = append(s.Sessions, impl.Session{Id: id, Deadline: 10})
		}, impl.Reply{Id: id, Num: 10})
	}
	full := flatState(impl.MaxSessions, 0)
	wantFault(t, "open beside as many as may be", full, op, impl.CodeFull)
	room := run(t, full, ofSession(impl.OpClose, 7))
	wantDone(t, "open when one is gone", room, op, func(s *impl.State) {
		s.Next = 51
		s.Sessions = append(s.Sessions, impl.Session{Id: 51, Deadline: 10})
	}, impl.Reply{Id: 51, Num: 10})
}

func TestOpenAtTheLastNumber(t *testing.T) {
	op := impl.Op{Kind: impl.OpOpen}
	s := impl.State{Next: impl.MaxCounter - 1}
	s = wantDone(t, "the last number", s, op, func(s *impl.State) {
		s.Next = impl.MaxCounter
		s.Sessions = []impl.Session{{Id: impl.MaxCounter, Deadline: 10}}
	}, impl.Reply{Id: impl.MaxCounter, Num: 10})
	wantFault(t, "no number left", s, op, impl.CodeCounter)
	s = run(t, s, ofSession(impl.OpClose, impl.MaxCounter))
	wantFault(t, "no number left and no session", s, op, impl.CodeCounter)
}

// A number is never given again, though its session is gone.
func TestSessionNumbersOnlyGrow(t *testing.T) {
	s := impl.State{}
	for i := range uint64(100) {
		next, r := impl.Apply(s, impl.Op{Kind: impl.OpOpen})
		if r.Code != impl.CodeOK || r.Id != i+1 {
			t.Fatalf("open %d: %s", i, told(r))
		}
		s = run(t, next, ofSession(impl.OpClose, r.Id))
	}
	if told(s) != told(impl.State{Next: 100}) {
		t.Errorf("%s", told(s))
	}
}

func TestTimesAtTheirLimits(t *testing.T) {
	for _, now := range []int{0, 1, impl.MaxNow - 10, impl.MaxNow - 1, impl.MaxNow} {
		s := flatState(2, 0)
		s.Now = now
		wantDone(t, fmt.Sprint("open at ", now), s, impl.Op{Kind: impl.OpOpen}, func(s *impl.State) {
			s.Next = 3
			s.Sessions = append(s.Sessions, impl.Session{Id: 3, Deadline: now + 10})
		}, impl.Reply{Id: 3, Num: now + 10})
		for _, deadline := range []int{0, now, now + 9, now + 10, now + 11, now + 15, impl.MaxNow + 15} {
			if deadline > impl.MaxNow+15 {
				continue
			}
			s.Sessions[1].Deadline = deadline
			want := max(deadline, now+10)
			wantDone(t, fmt.Sprintf("keep of deadline %d at %d", deadline, now), s, ofSession(impl.OpKeep, 2), func(s *impl.State) {
				s.Sessions[1].Deadline = want
			}, impl.Reply{Num: want})
		}
	}
}

// A session that should have been gone for long is still there until it is closed.
func TestDeadlineThatIsOver(t *testing.T) {
	s := flatState(1, 1)
	s.Now = 500
	wantDone(t, "keep", s, ofSession(impl.OpKeep, 1), func(s *impl.State) { s.Sessions[0].Deadline = 510 }, impl.Reply{Num: 510})
	wantDone(t, "lock", s, lockOf(1, "/n000", impl.ModeShared), func(s *impl.State) {
		s.Nodes[0].Mode, s.Nodes[0].Holders = impl.ModeShared, idsOf(1)
	}, impl.Reply{})
}

func TestCreateAtItsLimits(t *testing.T) {
	for _, n := range []int{0, 1, impl.MaxNodes - 2, impl.MaxNodes - 1} {
		for _, flag := range []int{0, 1} {
			wantDone(t, fmt.Sprint("create beside ", n), flatState(1, n), createOf(1, "/new", flag, "v"), func(s *impl.State) {
				putNode(s, impl.Node{Path: []byte("/new"), Value: []byte("v"), Owner: uint64(flag)})
			}, impl.Reply{})
		}
	}
	full := flatState(1, impl.MaxNodes)
	wantFault(t, "create beside as many as may be", full, createOf(1, "/new", 0, "v"), impl.CodeFull)
	wantFault(t, "create below, beside as many as may be", full, createOf(1, "/n000/new", 1, "v"), impl.CodeFull)
	room := run(t, full, onNode(impl.OpDelete, 1, "/n100"))
	wantDone(t, "create when one is gone", room, createOf(1, "/n100", 0, ""), func(s *impl.State) {
		putNode(s, impl.Node{Path: []byte("/n100")})
	}, impl.Reply{})
}

func TestCreateOfDeepAndLongPaths(t *testing.T) {
	s := flatState(1, 0)
	path := ""
	for range impl.MaxDepth {
		path += "/" + strings.Repeat("n", impl.MaxName)
		s = wantDone(t, "create "+path, s, createOf(1, path, 0, ""), func(s *impl.State) { putNode(s, impl.Node{Path: []byte(path)}) }, impl.Reply{})
	}
	wantFault(t, "one name more", s, createOf(1, path+"/n", 0, ""), impl.CodePath)
	wantFault(t, "one byte more", s, createOf(1, "/"+strings.Repeat("n", impl.MaxName+1), 0, ""), impl.CodePath)
	wantDone(t, "list of the deepest", s, onPath(impl.OpList, path), nothing, impl.Reply{})
	wantFault(t, "list below the deepest", s, onPath(impl.OpList, path+"/n"), impl.CodePath)
}

func TestValuesAtTheirLimits(t *testing.T) {
	for _, n := range []int{0, 1, impl.MaxValue - 1, impl.MaxValue} {
		value := string(someBytes(n))
		wantDone(t, fmt.Sprint("create with ", n), flatState(1, 0), createOf(1, "/a", 0, value), func(s *impl.State) {
			putNode(s, impl.Node{Path: []byte("/a"), Value: []byte(value)})
		}, impl.Reply{})
		s := wantDone(t, fmt.Sprint("set to ", n), flatState(1, 1), setOf(1, "/n000", value), func(s *impl.State) { s.Nodes[0].Value = []byte(value) }, impl.Reply{})
		wantDone(t, fmt.Sprint("get of ", n), s, onPath(impl.OpGet, "/n000"), nothing, impl.Reply{Data: []byte(value)})
	}
	for _, n := range []int{impl.MaxValue + 1, 256, 1000} {
		value := string(someBytes(n))
		wantFault(t, fmt.Sprint("create with ", n), flatState(1, 0), createOf(1, "/a", 0, value), impl.CodeForm)
		wantFault(t, fmt.Sprint("set to ", n), flatState(1, 1), setOf(1, "/n000", value), impl.CodeForm)
	}
}

// A node that is owned has no children, whoever asks; when its owner lets it be
// made anew as a lasting one, it has.
func TestOwnedParent(t *testing.T) {
	s := run(t, flatState(2, 0), createOf(1, "/p", 1, ""))
	for _, id := range idsOf(1, 2) {
		for _, flag := range []int{0, 1} {
			wantFault(t, "below an owned node", s, createOf(id, "/p/c", flag, ""), impl.CodeParent)
		}
	}
	s = run(t, s, onNode(impl.OpDelete, 2, "/p"), createOf(2, "/p", 0, ""))
	wantDone(t, "below a lasting node", s, createOf(1, "/p/c", 1, ""), func(s *impl.State) {
		putNode(s, impl.Node{Path: []byte("/p/c"), Owner: 1})
	}, impl.Reply{})
}

func TestPathsThatAreNone(t *testing.T) {
	for _, path := range append(wrongPaths(), "/") {
		for _, r := range opRows {
			if !r.has("P") || r.kind == impl.OpList && path == "/" {
				continue
			}
			op := unflawed(r)
			op.Path = []byte(path)
			for _, s := range []impl.State{ordinaryState(), flatState(1, 0)} {
				wantFault(t, fmt.Sprintf("kind %d of %q", r.kind, path), s, op, impl.CodePath)
			}
		}
	}
}

// The root is listed though no node is there, and by nothing else but one slash.
func TestListOfTheRoot(t *testing.T) {
	s := flatState(0, impl.MaxNodes)
	var names [][]byte
	for i := range impl.MaxNodes {
		names = append(names, fmt.Appendf(nil, "n%03d", i))
	}
	wantDone(t, "as many as may be", s, onPath(impl.OpList, "/"), nothing, impl.Reply{Names: names})
	wantFault(t, "no path", s, onPath(impl.OpList, ""), impl.CodePath)
	wantFault(t, "two slashes", s, onPath(impl.OpList, "//"), impl.CodePath)
	wantFault(t, "get of the root", s, onPath(impl.OpGet, "/"), impl.CodePath)
}

func TestDeleteWithChildren(t *testing.T) {
	s := treeOf("/a", "/a-", "/a-/x", "/a0", "/b", "/b/c", "/b/c/d")
	s.Next, s.Sessions = 1, []impl.Session{{Id: 1}}
	codes := map[string]int{
		"/a": impl.CodeOK, "/a-": impl.CodeChild, "/a-/x": impl.CodeOK, "/a0": impl.CodeOK,
		"/b": impl.CodeChild, "/b/c": impl.CodeChild, "/b/c/d": impl.CodeOK,
	}
	for path, code := range codes {
		op := onNode(impl.OpDelete, 1, path)
		if code != impl.CodeOK {
			wantFault(t, "delete "+path, s, op, code)
			continue
		}
		wantDone(t, "delete "+path, s, op, func(s *impl.State) { dropNode(s, path) }, impl.Reply{})
	}
	s = run(t, s, onNode(impl.OpDelete, 1, "/b/c/d"), onNode(impl.OpDelete, 1, "/b/c"), onNode(impl.OpDelete, 1, "/b"))
	wantDone(t, "what is left", s, onPath(impl.OpList, "/"), nothing, impl.Reply{Names: textsOf("a", "a-", "a0")})
	owned := run(t, s, createOf(1, "/a/own", 1, ""))
	wantFault(t, "with an owned child", owned, onNode(impl.OpDelete, 1, "/a"), impl.CodeChild)
}
