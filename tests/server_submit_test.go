package tests

import (
	"fmt"
	"math/rand"
	"slices"
	"testing"

	"loop.example/s02132/impl"
)

// By hand: the record is behind the others, and not synced.
func TestSubmitByHand(t *testing.T) {
	v := firstServer()
	after := v
	after.Disk.Log.Data = []byte{5, 0, 1, 0, 0, 0, 0, 0, 0, 0, 1, 0, 0, 0, 0}
	after.Disk.Log.Data = sumBehind(after.Disk.Log.Data)
	after.State = impl.State{Epoch: 1, Next: 1, Sessions: []impl.Session{{Id: 1, Deadline: 10}}}
	after.Seq = 1
	v = wantSubmitted(t, "an open", v, openOp, after, impl.Reply{Id: 1, Num: 10})

	after.Disk.Log.Data = slices.Concat(after.Disk.Log.Data, opRecord(2, createOf(1, "/a", 0, "hello")))
	after.State.Nodes = []impl.Node{{Path: []byte("/a"), Value: []byte("hello")}}
	after.Seq = 2
	v = wantSubmitted(t, "a create", v, createOf(1, "/a", 0, "hello"), after, impl.Reply{})

	after.State.Nodes[0].Watchers = idsOf(1)
	v = wantSubmitted(t, "a watch", v, onNode(impl.OpWatch, 1, "/a"), after, impl.Reply{})
	v = wantSubmitted(t, "a get", v, onPath(impl.OpGet, "/a"), after, impl.Reply{Data: []byte("hello")})
	v = wantSubmitted(t, "a lock by nobody", v, lockOf(2, "/a", exclusive), after, impl.Reply{Code: impl.CodeSession})

	after.Disk.Log.Data = slices.Concat(after.Disk.Log.Data, opRecord(3, lockOf(1, "/a", exclusive)))
	after.State.Gen = 1
	after.State.Nodes[0].Mode, after.State.Nodes[0].Holders, after.State.Nodes[0].Epoch, after.State.Nodes[0].Gen = exclusive, idsOf(1), 1, 1
	after.Seq = 3
	wantSubmitted(t, "a lock", v, lockOf(1, "/a", exclusive), after, impl.Reply{Epoch: 1, Gen: 1})
}

// Each kind, done: those that are journaled have one record more, and the others
// leave the disk as it was.
func TestSubmitOfEachKind(t *testing.T) {
	for i, v := range []impl.Server{serverOf(ordinaryState(), 41), ordinaryServer(), logSynced(ordinaryServer())} {
		for _, r := range opRows {
			op := unflawed(r)
			what := fmt.Sprintf("server %d, kind %d", i, r.kind)
			s, reply := secondApply(v.State, op)
			if reply.Code != impl.CodeOK {
				t.Fatalf("%s: the test itself is wrong", what)
			}
			after := impl.Server{Disk: v.Disk, State: s, Seq: v.Seq}
			if r.journaled {
				after.Disk.Log.Data = slices.Concat(v.Disk.Log.Data, opRecord(v.Seq+1, op))
				after.Seq++
			}
			wantSubmitted(t, what, v, op, after, reply)
		}
	}
}

// Each kind, with each fault: the server is as it was.
func TestSubmitOfEachFault(t *testing.T) {
	v := ordinaryServer()
	for _, r := range opRows {
		for _, f := range flawsInOrder(r) {
			for _, x := range f.flaws {
				op := flawedBy(unflawed(r), x)
				if f.code == impl.CodeSession && knows(v.State, op.Session) {
					continue
				}
				want(t, fmt.Sprintf("kind %d, %s", r.kind, x.name), submit(v, op), submitted{v, impl.Reply{Code: f.code}})
			}
		}
	}
	for _, o := range ownFlaweds() {
		v := serverOf(o.s, 12)
		wantSubmitted(t, o.name, v, o.op, v, impl.Reply{Code: o.code})
	}
}

// The last number is given; then requests that would need one more are refused,
// but a fault of their own is told first.
func TestSubmitAtTheLastNumber(t *testing.T) {
	for _, r := range opRows {
		op := unflawed(r)
		v := serverOf(ordinaryState(), impl.MaxCounter-1)
		after, reply := secondSubmitted(v, op)
		if r.journaled && after.Seq != impl.MaxCounter || reply.Code != impl.CodeOK {
			t.Fatalf("kind %d: the test itself is wrong", r.kind)
		}
		wantSubmitted(t, fmt.Sprint("the last number, kind ", r.kind), v, op, after, reply)

		v = serverOf(ordinaryState(), impl.MaxCounter)
		if r.journaled {
			wantSubmitted(t, fmt.Sprint("no number, kind ", r.kind), v, op, v, impl.Reply{Code: impl.CodeCounter})
		} else {
			s, reply := secondApply(v.State, op)
			wantSubmitted(t, fmt.Sprint("no number, kind ", r.kind), v, op, impl.Server{Disk: v.Disk, State: s, Seq: v.Seq}, reply)
		}
		wantSubmitted(t, fmt.Sprint("no number and no form, kind ", r.kind), v, impl.Op{Kind: r.kind, Flag: 7}, v, impl.Reply{Code: impl.CodeForm})
	}
	v := withLog(serverOf(ordinaryState(), impl.MaxCounter-1), openOp)
	wantSubmitted(t, "no number behind a record", v, openOp, v, impl.Reply{Code: impl.CodeCounter})
	wantSubmitted(t, "no number and no node", v, setOf(1, "/none", ""), v, impl.Reply{Code: impl.CodeNone})
	// The number goes before the room.
	full := fullServer(serverOf(ordinaryState(), 0), 0)
	full = fullServer(serverOf(ordinaryState(), impl.MaxCounter-full.Seq), 0)
	wantSubmitted(t, "no number and no room", full, openOp, full, impl.Reply{Code: impl.CodeCounter})
}

// Promise 17: just enough room, and one byte less.
func TestSubmitWithLittleRoom(t *testing.T) {
	for _, r := range opRows {
		if !r.journaled {
			continue
		}
		op := unflawed(r)
		size := frame + len(opBytes(op))
		v := fullServer(serverOf(ordinaryState(), 41), size)
		after, reply := secondSubmitted(v, op)
		if len(after.Disk.Log.Data) != impl.MaxLog || reply.Code != impl.CodeOK {
			t.Fatalf("kind %d: the test itself is wrong", r.kind)
		}
		wantSubmitted(t, fmt.Sprint("just enough room, kind ", r.kind), v, op, after, reply)
		v = fullServer(serverOf(ordinaryState(), 41), size-1)
		wantSubmitted(t, fmt.Sprint("one byte less, kind ", r.kind), v, op, v, impl.Reply{Code: impl.CodeFull})
	}
}

// Promise 17: with no room requests of journaled kinds change nothing, the
// others are done, and a fault of their own is told first; after a snap all goes.
func TestSubmitWithNoRoom(t *testing.T) {
	for _, left := range []int{0, 1, 18} {
		v := fullServer(ordinaryServer(), left)
		emptied := snap(v, 5).Server
		for _, r := range opRows {
			op := unflawed(r)
			what := fmt.Sprintf("%d left, kind %d", left, r.kind)
			if r.journaled {
				wantSubmitted(t, what, v, op, v, impl.Reply{Code: impl.CodeFull})
			} else {
				s, reply := secondApply(v.State, op)
				wantSubmitted(t, what, v, op, impl.Server{Disk: v.Disk, State: s, Seq: v.Seq}, reply)
			}
			for _, f := range flawsInOrder(r) {
				for _, x := range f.flaws[:min(1, len(f.flaws))] {
					want(t, what+", "+x.name, submit(v, flawedBy(op, x)), submitted{v, impl.Reply{Code: f.code}})
				}
			}
			after, reply := secondSubmitted(emptied, op)
			wantCode(t, what+", the second after a snap", reply.Code, impl.CodeOK)
			wantSubmitted(t, what+", after a snap", emptied, op, after, reply)
		}
	}
}

// A snap that is cut before its last step gives no room.
func TestNoRoomAfterACutSnap(t *testing.T) {
	v := fullServer(ordinaryServer(), 0)
	for steps := range 5 {
		cut := snap(v, steps).Server
		wantSubmitted(t, fmt.Sprint(steps, " steps"), cut, openOp, cut, impl.Reply{Code: impl.CodeFull})
	}
}

// What is synced stays so, record after record, and nothing more is.
func TestSubmitSyncsNothing(t *testing.T) {
	v := logSynced(withLog(serverOf(ordinaryState(), 41), openOp, openOp))
	safe := v.Disk.Log.Synced
	for i := range 20 {
		got := submit(v, setOf(1, "/a", fmt.Sprint(i)))
		log := got.Server.Disk.Log
		if got.Reply.Code != impl.CodeOK || log.Synced != safe || len(log.Data) <= len(v.Disk.Log.Data) {
			t.Fatalf("submit %d: code %d, %d of %d synced", i, got.Reply.Code, log.Synced, len(log.Data))
		}
		wantBytes(t, "what was there", log.Data[:len(v.Disk.Log.Data)], v.Disk.Log.Data)
		wantDisk(t, "but the Log", impl.Disk{Snap: got.Server.Disk.Snap, Temp: got.Server.Disk.Temp}, impl.Disk{Snap: v.Disk.Snap, Temp: v.Disk.Temp})
		v = got.Server
	}
}

func TestSweepByHand(t *testing.T) {
	s := withDeadlines(50, 50, 51, 0, 90, 49)
	v := serverOf(s, 8)
	after := withLog(v, ofSession(impl.OpClose, 1), ofSession(impl.OpClose, 3), ofSession(impl.OpClose, 5))
	got := wantSwept(t, "three of five", v, after, impl.Reply{Num: 3})
	if told(got.State.Sessions) != told([]impl.Session{{Id: 2, Deadline: 51}, {Id: 4, Deadline: 90}}) || got.Seq != 11 {
		t.Errorf("number %d, %s", got.Seq, told(got.State.Sessions))
	}
	wantBytes(t, "the Log", got.Disk.Log.Data, opLog(9, ofSession(impl.OpClose, 1), ofSession(impl.OpClose, 3), ofSession(impl.OpClose, 5)))
	wantSwept(t, "and again", got, got, impl.Reply{})
}

func TestSweepOfNone(t *testing.T) {
	for i, v := range []impl.Server{{}, firstServer(), serverOf(withDeadlines(50, 51, 60), 3), serverOf(withDeadlines(0), 0)} {
		wantSwept(t, fmt.Sprint("server ", i), v, v, impl.Reply{})
	}
	full := fullServer(ordinaryServer(), 0)
	full.State.Sessions[2].Deadline = 500
	wantSwept(t, "a full Log", full, full, impl.Reply{})
}

// The locks and nodes of those who go are told to those who stay, or go later.
func TestSweepOfSeveral(t *testing.T) {
	v := ordinaryServer()
	wantSwept(t, "one", v, withLog(v, ofSession(impl.OpClose, 300)), impl.Reply{Num: 1})
	v.State.Now = 92
	v.State.Sessions[3].Deadline = 200
	wantSwept(t, "but one", v, withLog(v, ofSession(impl.OpClose, 1), ofSession(impl.OpClose, 130), ofSession(impl.OpClose, 300)), impl.Reply{Num: 3})
	v.State.Now = 200
	ids := idsOf(1, 130, 300, 301)
	after := v
	for _, id := range ids {
		after = withLog(after, ofSession(impl.OpClose, id))
	}
	got := wantSwept(t, "all", v, after, impl.Reply{Num: 4})
	if len(got.State.Sessions) > 0 || nodeAt(got.State, "/a/b/own") >= 0 {
		t.Errorf("left are %s", told(got.State))
	}
	all := flatState(impl.MaxSessions, 3)
	all.Now = 1
	if got := sweep(serverOf(all, 3)); got.Reply.Num != impl.MaxSessions || len(got.Server.State.Sessions) > 0 {
		t.Errorf("as many as may be: %s", told(got.Reply))
	}
}

// A close that is refused in between ends the sweep; those before it count.
func TestSweepThatIsRefused(t *testing.T) {
	s := ordinaryState()
	s.Sessions = slices.Clone(s.Sessions)
	s.Now = 92
	one, two := len(opRecord(0, ofSession(impl.OpClose, 1))), len(opRecord(0, ofSession(impl.OpClose, 130)))
	for left := range 70 {
		v := fullServer(serverOf(s, 41), left)
		after, n := v, 0
		for _, x := range []struct {
			id   uint64
			size int
		}{{1, one}, {130, one + two}, {300, one + 2*two}} {
			if left >= x.size {
				after = withLog(after, ofSession(impl.OpClose, x.id))
				n++
			}
		}
		reply := impl.Reply{Num: n}
		if n < 3 {
			reply.Code = impl.CodeFull
		}
		wantSwept(t, fmt.Sprint(left, " left"), v, after, reply)
	}
	for n := range 4 {
		v := serverOf(s, impl.MaxCounter-uint64(n))
		after := withLog(v, []impl.Op{ofSession(impl.OpClose, 1), ofSession(impl.OpClose, 130), ofSession(impl.OpClose, 300)}[:n]...)
		reply := impl.Reply{Num: n}
		if n < 3 {
			reply.Code = impl.CodeCounter
		}
		wantSwept(t, fmt.Sprint(n, " numbers"), v, after, reply)
	}
}

// Promise 12, and all that 6.2 and 6.3 say: runs of requests, sweeps, snaps and
// time, as of the second server; each server is valid, and its disk loads.
func TestServerRunsAsOfTheSecond(t *testing.T) {
	r := rand.New(rand.NewSource(23))
	seen := map[string]int{}
	begin := append(someServers(), serverOf(flatState(3, 3), impl.MaxCounter-4), fullServer(serverOf(ordinaryState(), 0), 200))
	for range 25 {
		begin = append(begin, serverOf(randomState(r), uint64(r.Intn(1000))))
	}
	for i, v := range begin {
		for range 25 {
			what := fmt.Sprint("run ", i)
			switch r.Intn(12) {
			case 0:
				steps := r.Intn(8) - 1
				got := snap(v, steps)
				want(t, what+", snap", got, secondSnapped(v, steps))
				if got.Code == impl.CodeBad {
					continue
				}
				v = got.Server
			case 1:
				got := sweep(v)
				after, reply := secondSweep(v)
				want(t, what+", sweep", got, submitted{after, reply})
				seen[fmt.Sprint("sweep ", reply.Code, " ", min(reply.Num, 2))]++
				v = got.Server
			case 2:
				v.State, _ = impl.Advance(v.State, r.Intn(8))
			case 3:
				v.Disk, _ = impl.DiskSync(v.Disk, impl.FileLog)
			default:
				op := randomOp(r, v.State)
				got := submit(v, op)
				after, reply := secondSubmit(v, op)
				want(t, what+", "+told(op), got, submitted{after, reply})
				seen[fmt.Sprint("submit ", reply.Code)]++
				v = got.Server
			}
			wantSound(t, what, v, true)
			want(t, what+", load", load(v.Disk), loaded{State: durableOf(v.State), Seq: v.Seq})
			if t.Failed() {
				return
			}
		}
	}
	for _, what := range []string{"sweep 0 0", "sweep 0 1", "sweep 0 2", "submit 0", "submit 2", "submit 3", "submit 4", "submit 5", "submit 11", "submit 12"} {
		if seen[what] == 0 {
			t.Errorf("the test itself is too narrow: no %s in %v", what, seen)
		}
	}
}

// Promise 13: with every keep, what is left is what was synced and those first
// requests whose whole records were kept.
func TestCrashAfterSubmits(t *testing.T) {
	ops := []impl.Op{
		openOp, createOf(301, "/x", 0, "v"), ofSession(impl.OpKeep, 1), lockOf(1, "/x", exclusive), setOf(301, "/x", "w"), onNode(impl.OpWatch, 1, "/a"),
		setOf(1, "/x", string(someBytes(40))), ofSession(impl.OpClose, 300), onNode(impl.OpUnlock, 1, "/x"), onNode(impl.OpDelete, 1, "/x"),
	}
	for i, v := range []impl.Server{serverOf(ordinaryState(), 41), logSynced(withLog(serverOf(ordinaryState(), 0), setOf(1, "/a", "before")))} {
		safe := len(v.Disk.Log.Data)
		// ends has, for each state, how many bytes must be kept for it.
		ends, states := []int{0}, []impl.Server{v}
		for _, op := range ops {
			got := submit(v, op)
			if grown := len(got.Server.Disk.Log.Data) - safe; grown > ends[len(ends)-1] {
				ends, states = append(ends, grown), append(states, got.Server)
			}
			v = got.Server
		}
		if len(states) != 8 {
			t.Fatalf("the test itself is wrong: %d states", len(states))
		}
		for keep := range len(v.Disk.Log.Data) - safe + 50 {
			d, code := impl.DiskCrash(v.Disk, keep)
			wantCode(t, "crash", code, impl.CodeOK)
			last := 0
			for last+1 < len(ends) && ends[last+1] <= keep {
				last++
			}
			wantLoad(t, fmt.Sprintf("server %d, %d kept", i, keep), d, states[last].State, states[last].Seq)
		}
	}
}

// Promise 13, by chance: some number of the first requests, and never fewer
// with a greater keep.
func TestCrashAfterSubmitsByChance(t *testing.T) {
	r := rand.New(rand.NewSource(24))
	torn := 0
	for i := range 60 {
		v := logSynced(serverOf(randomState(r), uint64(r.Intn(100))))
		steps := r.Intn(5)
		v = snap(v, steps).Server
		states := []impl.Server{v}
		for range 12 {
			v = submit(v, randomOp(r, v.State)).Server
			states = append(states, v)
		}
		before := uint64(0)
		for keep := 0; keep < len(v.Disk.Log.Data)+10; keep += 1 + r.Intn(7) {
			d, _ := impl.DiskCrash(v.Disk, keep)
			got := load(d)
			at := slices.IndexFunc(states, func(x impl.Server) bool { return x.Seq == got.Seq })
			if at < 0 || got.Seq < before {
				t.Fatalf("run %d, %d kept: number %d", i, keep, got.Seq)
			}
			size := len(states[at].Disk.Log.Data)
			if next := at + slices.IndexFunc(states[at:], func(x impl.Server) bool { return x.Seq > got.Seq }); size > keep || next >= at && len(states[next].Disk.Log.Data) <= keep {
				t.Fatalf("run %d: %d kept, and %d bytes are there", i, keep, size)
			}
			if size < keep {
				torn++
			}
			want(t, fmt.Sprintf("run %d, %d kept", i, keep), got, loaded{State: durableOf(states[at].State), Seq: got.Seq})
			before = got.Seq
		}
	}
	if torn < 100 {
		t.Errorf("the test itself is too narrow: %d torn", torn)
	}
}
