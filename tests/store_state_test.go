package tests

import (
	"fmt"
	"math"
	"testing"

	"loop.example/s02132/impl"
)

// change is something done to an ordinary state, and whether it is valid then.
type change struct {
	name  string
	do    func(s *impl.State)
	valid bool
}

func wantChanges(t *testing.T, changes []change) {
	t.Helper()
	for _, c := range changes {
		s := ordinaryState()
		c.do(&s)
		if soundState(s) != c.valid {
			t.Fatalf("%s: the test itself is wrong", c.name)
		}
		wantValid(t, c.name, s, c.valid)
		if d := durableOf(s); !soundState(d) {
			wantNoState(t, c.name+", as bytes", stateBytes(d))
		}
	}
}

// flatState has so many sessions and so many nodes below the root.
func flatState(sessions, nodes int) impl.State {
	s := impl.State{Epoch: 1, Next: uint64(sessions)}
	for i := range sessions {
		s.Sessions = append(s.Sessions, impl.Session{Id: uint64(i) + 1})
	}
	for i := range nodes {
		s.Nodes = append(s.Nodes, impl.Node{Path: fmt.Appendf(nil, "/n%03d", i)})
	}
	return s
}

func TestOrdinaryStates(t *testing.T) {
	wantValid(t, "an ordinary state", ordinaryState(), true)
	wantValid(t, "its durable part", durableOf(ordinaryState()), true)
	wantValid(t, "the zero state", impl.State{}, true)
	wantValid(t, "empty lists", impl.State{Sessions: []impl.Session{}, Nodes: []impl.Node{}}, true)
	wantValid(t, "a session alone", impl.State{Next: 1, Sessions: []impl.Session{{Id: 1}}}, true)
	wantValid(t, "a node alone", impl.State{Nodes: []impl.Node{{Path: []byte("/a")}}}, true)
}

func TestEncodeState(t *testing.T) {
	wantBytes(t, "the zero state", impl.EncodeState(impl.State{}), []byte{0, 0, 0, 0, 0})
	want := []byte{
		3, 244, 3, 172, 2,
		3, 1, 130, 1, 172, 2,
		4,
		2, '/', 'a', 5, 'h', 'e', 'l', 'l', 'o', 0, 0, 0, 0, 0,
		4, '/', 'a', '-', 'b', 0, 0, 1, 1, 130, 1, 2, 144, 3,
		4, '/', 'a', '/', 'b', 3, 0, 128, 255, 0, 2, 3, 1, 130, 1, 172, 2, 0, 0,
		8, '/', 'a', '/', 'b', '/', 'o', 'w', 'n', 0, 172, 2, 1, 1, 1, 3, 244, 3,
	}
	s := ordinaryState()
	s.Nodes = s.Nodes[:4]
	wantBytes(t, "as the document says it", impl.EncodeState(s), want)
	wantState(t, "as the document says it", want, durableOf(s))
}

func TestStateCounters(t *testing.T) {
	const top = impl.MaxCounter
	wantChanges(t, []change{
		{"Epoch at its limit", func(s *impl.State) { s.Epoch = top }, true},
		{"Epoch beyond it", func(s *impl.State) { s.Epoch = top + 1 }, false},
		{"the greatest Epoch", func(s *impl.State) { s.Epoch = math.MaxUint64 }, false},
		{"Epoch at 2^63", func(s *impl.State) { s.Epoch = 1 << 63 }, false},
		{"Gen at its limit", func(s *impl.State) { s.Gen = top }, true},
		{"Gen beyond it", func(s *impl.State) { s.Gen = top + 1 }, false},
		{"the greatest Gen", func(s *impl.State) { s.Gen = math.MaxUint64 }, false},
		{"Next at its limit", func(s *impl.State) { s.Next = top }, true},
		{"Next beyond it", func(s *impl.State) { s.Next = top + 1 }, false},
		{"the greatest Next", func(s *impl.State) { s.Next = math.MaxUint64 }, false},
		{"all at their limits", func(s *impl.State) { s.Epoch, s.Gen, s.Next = top, top, top }, true},
		{"a session at the limit", func(s *impl.State) { s.Next = top; s.Sessions = append(s.Sessions, impl.Session{Id: top}) }, true},
	})
}

func TestStateTimes(t *testing.T) {
	for _, now := range []int{0, 1, impl.MaxNow - 1, impl.MaxNow, impl.MaxNow + 1, -1, -2, math.MaxInt, math.MinInt} {
		s := ordinaryState()
		s.Now = now
		wantValid(t, fmt.Sprint("Now ", now), s, 0 <= now && now <= 1000000)
	}
	for _, deadline := range []int{0, 1, impl.MaxNow, impl.MaxNow + 14, impl.MaxNow + 15, impl.MaxNow + 16, -1, math.MaxInt, math.MinInt} {
		for i := range 3 {
			s := ordinaryState()
			s.Sessions[i].Deadline = deadline
			wantValid(t, fmt.Sprint("Deadline ", deadline), s, 0 <= deadline && deadline <= 1000015)
		}
	}
}

func TestStateSizes(t *testing.T) {
	for _, n := range []int{0, 1, impl.MaxSessions - 1, impl.MaxSessions, impl.MaxSessions + 1, impl.MaxSessions + 2, 256 + 1, 1000} {
		wantValid(t, fmt.Sprint(n, " sessions"), flatState(n, 1), n <= 50)
		wantRead(t, fmt.Sprint(n, " sessions, as bytes"), stateBytes(flatState(n, 1)))
	}
	for _, n := range []int{0, 1, impl.MaxNodes - 1, impl.MaxNodes, impl.MaxNodes + 1, impl.MaxNodes + 2, 256 + 1, 999} {
		wantValid(t, fmt.Sprint(n, " nodes"), flatState(1, n), n <= 200)
		wantRead(t, fmt.Sprint(n, " nodes, as bytes"), stateBytes(flatState(1, n)))
	}
	for _, n := range []int{0, impl.MaxValue - 1, impl.MaxValue, impl.MaxValue + 1, 127, 128, 256} {
		for i := range 5 {
			s := ordinaryState()
			s.Nodes[i].Value = someBytes(n)
			wantValid(t, fmt.Sprint("a value of ", n), s, n <= 40)
			wantRead(t, fmt.Sprint("a value of ", n, ", as bytes"), stateBytes(s))
		}
	}
}

// A state that has of everything as much as it may.
func TestTheGreatestState(t *testing.T) {
	s := flatState(impl.MaxSessions, impl.MaxNodes)
	s.Epoch, s.Gen, s.Next, s.Now = impl.MaxCounter, impl.MaxCounter, impl.MaxCounter, impl.MaxNow
	var all []uint64
	for i := range s.Sessions {
		s.Sessions[i].Id += impl.MaxCounter - impl.MaxSessions
		s.Sessions[i].Deadline = impl.MaxNow + impl.Lease + impl.Grace
		s.Sessions[i].Queue = fullQueue(impl.MaxQueue-1, impl.Event{Kind: impl.EvOverflow})
		all = append(all, s.Sessions[i].Id)
	}
	for i := range s.Nodes {
		s.Nodes[i].Value = someBytes(impl.MaxValue)
		s.Nodes[i].Owner = all[i%len(all)]
		s.Nodes[i].Mode, s.Nodes[i].Holders, s.Nodes[i].Watchers = impl.ModeShared, all, all
	}
	wantValid(t, "the greatest state", s, true)
}

func TestStateSessions(t *testing.T) {
	wantChanges(t, []change{
		{"Id 0", func(s *impl.State) { s.Sessions = append([]impl.Session{{}}, s.Sessions...) }, false},
		{"Id at Next", func(s *impl.State) { s.Next = 300 }, true},
		{"Id above Next", func(s *impl.State) { s.Next = 299 }, false},
		{"Next 0", func(s *impl.State) { s.Next = 0 }, false},
		{"the greatest Id", func(s *impl.State) { s.Sessions = append(s.Sessions, impl.Session{Id: math.MaxUint64}) }, false},
		{"the same twice", func(s *impl.State) { s.Sessions = append(s.Sessions, s.Sessions[2]) }, false},
		{"the first twice", func(s *impl.State) { s.Sessions = append(s.Sessions[:1:1], s.Sessions...) }, false},
		{"falling", func(s *impl.State) { s.Sessions[0], s.Sessions[1] = s.Sessions[1], s.Sessions[0] }, false},
		{"the last first", func(s *impl.State) { s.Sessions[0], s.Sessions[2] = s.Sessions[2], s.Sessions[0] }, false},
		{"falling at the end", func(s *impl.State) { s.Sessions = append(s.Sessions, impl.Session{Id: 299}) }, false},
		{"one next to another", func(s *impl.State) { s.Next = 301; s.Sessions = append(s.Sessions, impl.Session{Id: 301}) }, true},
		{"none that nodes name", func(s *impl.State) { s.Sessions = nil }, false},
		{"no sessions, no names", func(s *impl.State) { s.Sessions, s.Nodes = nil, s.Nodes[4:] }, true},
	})
}

func TestStateQueues(t *testing.T) {
	over := impl.Event{Kind: impl.EvOverflow}
	event := impl.Event{Kind: impl.EvDeleted, Path: []byte("/gone")}
	long := append(fullQueue(impl.MaxQueue-2, over), over)
	queues := []struct {
		name  string
		queue []impl.Event
		valid bool
	}{
		{"empty", nil, true},
		{"one event", fullQueue(0, event), true},
		{"one less than full", fullQueue(impl.MaxQueue-2, event), true},
		{"full, the last an overflow", fullQueue(impl.MaxQueue-1, over), true},
		{"full without an overflow", fullQueue(impl.MaxQueue-1, event), false},
		{"too many, the last an overflow", fullQueue(impl.MaxQueue, over), false},
		{"too many, the last but one an overflow", append(fullQueue(impl.MaxQueue-1, over), event), false},
		{"too many without an overflow", fullQueue(impl.MaxQueue, event), false},
		{"an overflow alone", fullQueue(0, over), false},
		{"an overflow ahead of its place", fullQueue(impl.MaxQueue-2, over), false},
		{"two overflows", long, false},
		{"an overflow first", append([]impl.Event{over}, fullQueue(impl.MaxQueue-2, over)...), false},
		{"an overflow with a path", fullQueue(impl.MaxQueue-1, impl.Event{Kind: impl.EvOverflow, Path: []byte("/q")}), false},
		{"an overflow with other bytes", fullQueue(impl.MaxQueue-1, impl.Event{Kind: impl.EvOverflow, Path: []byte{0}}), false},
		{"an overflow with an empty path", fullQueue(impl.MaxQueue-1, impl.Event{Kind: impl.EvOverflow, Path: []byte{}}), true},
		{"no kind at the last place", fullQueue(impl.MaxQueue-1, impl.Event{}), false},
		{"kind 5 at the last place", fullQueue(impl.MaxQueue-1, impl.Event{Kind: 5}), false},
	}
	for _, q := range queues {
		for i := range 3 {
			s := ordinaryState()
			s.Sessions[i].Queue = q.queue
			wantValid(t, q.name, s, q.valid)
		}
	}
}

func TestStateEvents(t *testing.T) {
	for _, kind := range []int{-1, 0, 1, 2, 3, 4, 5, 256 + 1, math.MaxInt, math.MinInt} {
		for _, path := range []string{"/q", "/not/a/node", "", "/", "/A", "q", "/q/"} {
			for at := range 3 {
				s := ordinaryState()
				s.Sessions[0].Queue = queueOf("/x", "/y", "/z")
				s.Sessions[0].Queue[at] = impl.Event{Kind: kind, Path: []byte(path)}
				good := 1 <= kind && kind <= 3 && pathForm.MatchString(path)
				wantValid(t, fmt.Sprintf("event %d of %q", kind, path), s, good)
			}
		}
	}
}
