package tests

import (
	"fmt"
	"maps"
	"math"
	"math/rand"
	"slices"
	"testing"

	"loop.example/s02132/impl"
)

// randomPath is most often one of a few, so that requests meet.
func randomPath(r *rand.Rand, s impl.State) []byte {
	switch r.Intn(12) {
	case 0:
		return []byte(pick(r, append(wrongPaths(), "/")...))
	case 1, 2, 3, 4, 5:
		if len(s.Nodes) > 0 {
			return pick(r, s.Nodes...).Path
		}
	}
	return []byte(pick(r, "/a", "/b", "/a-", "/a/a", "/a/b", "/a-/a", "/a/a/a", "/b/a", "/b/a-"))
}

func randomSession(r *rand.Rand, s impl.State) uint64 {
	if len(s.Sessions) == 0 || r.Intn(15) == 0 {
		return pick(r, 0, s.Next, s.Next+1, 1, math.MaxUint64)
	}
	return pick(r, s.Sessions...).Id
}

// randomOp is now and then not well formed.
func randomOp(r *rand.Rand, s impl.State) impl.Op {
	row := pick(r, opRows...)
	op := row.bare()
	op.Flag = pick(r, row.flags...)
	if row.has("S") {
		op.Session = randomSession(r, s)
	}
	if row.has("P") {
		op.Path = randomPath(r, s)
	}
	if row.has("V") {
		op.Value = someBytes(pick(r, 0, 1, 5, impl.MaxValue))
	}
	if row.has("Q") {
		op.Epoch, op.Gen = s.Epoch, pick(r, 0, 1, s.Gen)
		if i := nodeAt(s, string(op.Path)); i >= 0 && r.Intn(4) > 0 {
			op.Epoch, op.Gen = s.Nodes[i].Epoch, s.Nodes[i].Gen
			op.Session = pick(r, append(s.Nodes[i].Holders, op.Session)...)
		}
	}
	if r.Intn(25) == 0 {
		return flawedBy(op, pick(r, formFlaws(row)...))
	}
	return livelier(r, s, op)
}

// livelier keeps a run from having too few nodes or events, or locks that are
// never let go.
func livelier(r *rand.Rand, s impl.State, op impl.Op) impl.Op {
	often := r.Intn(4) > 0
	i := nodeAt(s, string(op.Path))
	switch {
	case op.Kind == impl.OpOpen && len(s.Sessions) > 5 && often:
		return impl.Op{Kind: impl.OpWatch, Session: randomSession(r, s), Path: randomPath(r, s)}
	case op.Kind == impl.OpClose && len(s.Sessions) < 5 && often:
		return impl.Op{Kind: impl.OpOpen}
	case op.Kind == impl.OpClose && often:
		return impl.Op{Kind: impl.OpSet, Session: op.Session, Path: randomPath(r, s)}
	case (op.Kind == impl.OpPoll || op.Kind == impl.OpKeep) && often:
		return impl.Op{Kind: impl.OpWatch, Session: op.Session, Path: randomPath(r, s)}
	case op.Kind == impl.OpDelete && (len(s.Nodes) < 5 || len(s.Nodes) > 190) && often:
		return impl.Op{Kind: impl.OpCreate, Session: op.Session, Path: op.Path, Flag: r.Intn(2)}
	case op.Kind == impl.OpUnlock && i >= 0 && len(s.Nodes[i].Holders) > 0 && often:
		op.Session = pick(r, s.Nodes[i].Holders...)
	}
	return op
}

// step is one request of a run, with the states around it.
type step struct {
	before impl.State
	op     impl.Op
	reply  impl.Reply
	after  impl.State
}

// runByChance hands each step of a run to what looks at it.
func runByChance(r *rand.Rand, s impl.State, steps int, look func(x step)) impl.State {
	for range steps {
		op := randomOp(r, s)
		after, reply := impl.Apply(s, op)
		look(step{s, op, reply, after})
		s = after
	}
	return s
}

// beginnings are states from which runs go out.
func beginnings(r *rand.Rand) []impl.State {
	out := []impl.State{{}, {Epoch: 3}, ordinaryState(), crowded(), flatState(2, 0), flatState(impl.MaxSessions, 3), flatState(3, impl.MaxNodes)}
	last := flatState(3, 3)
	last.Epoch, last.Gen, last.Next, last.Now = impl.MaxCounter, impl.MaxCounter-5, impl.MaxCounter-5, impl.MaxNow
	out = append(out, last)
	for range 60 {
		out = append(out, randomState(r))
	}
	return out
}

// Promise 5, and all that the chapter says: the state and the reply are those of
// a second core, and the state is valid and, with a fault, as it was.
func TestRunsAsOfTheSecondCore(t *testing.T) {
	r := rand.New(rand.NewSource(8))
	seen := map[[2]int]int{}
	for i, s := range beginnings(r) {
		runByChance(r, s, 120, func(x step) {
			want, reply := secondApply(x.before, x.op)
			seen[[2]int{x.op.Kind, x.reply.Code}]++
			if told(x.reply) != told(reply) {
				t.Fatalf("run %d, %s: reply %s, want %s", i, told(x.op), told(x.reply), told(reply))
			}
			if told(x.after) != told(want) {
				t.Fatalf("run %d, %s: state %s, want %s", i, told(x.op), told(x.after), told(want))
			}
			if !soundState(x.after) || !impl.ValidState(x.after) {
				t.Fatalf("run %d, %s: the state after it is not valid: %s", i, told(x.op), told(x.after))
			}
			if x.reply.Code != impl.CodeOK && (told(x.after) != told(x.before) || told(x.reply) != told(impl.Reply{Code: x.reply.Code})) {
				t.Fatalf("run %d, %s: more than a code: %s", i, told(x.op), told(x.reply))
			}
		})
	}
	wantSeen(t, seen)
}

// wantSeen asks of the runs that each kind has met each of its answers.
func wantSeen(t *testing.T, seen map[[2]int]int) {
	t.Helper()
	own := map[int][]int{
		impl.OpOpen:   {impl.CodeFull, impl.CodeCounter},
		impl.OpCreate: {impl.CodeExists, impl.CodeParent, impl.CodeFull},
		impl.OpDelete: {impl.CodeChild, impl.CodeBusy},
		impl.OpSet:    {impl.CodeBusy},
		impl.OpLock:   {impl.CodeBusy, impl.CodeCounter},
		impl.OpUnlock: {impl.CodeFree},
	}
	for _, row := range opRows {
		codes := append(own[row.kind], impl.CodeOK, impl.CodeForm)
		if row.has("S") {
			codes = append(codes, impl.CodeSession)
		}
		if row.has("P") {
			codes = append(codes, impl.CodePath)
		}
		if needsNode(row.kind) {
			codes = append(codes, impl.CodeNone)
		}
		for _, code := range codes {
			if seen[[2]int{row.kind, code}] == 0 {
				t.Errorf("the test itself is too narrow: kind %d never answers %d", row.kind, code)
			}
		}
	}
}

// Promise 5: whatever the request, and the state valid or not.
func TestRequestsOfAnyKindInSpoiledStates(t *testing.T) {
	r := rand.New(rand.NewSource(9))
	for i := range 1500 {
		s := randomState(r)
		spoil(r, &s)
		op := randomOp(r, s)
		want, reply := secondApply(s, op)
		got, gotReply := impl.Apply(s, op)
		if told(gotReply) != told(reply) || told(got) != told(want) {
			t.Fatalf("state %d, %s: %s, want %s", i, told(op), told(gotReply), told(reply))
		}
	}
}

// ledger is what a client could write down of a run, from requests that were
// done and their replies alone; it begins with the zero state.
type ledger struct {
	holds   map[string]map[uint64]int // the mode, by path and session
	given   map[string][2]uint64      // the sequencer of an exclusive lock
	owners  map[string]uint64
	watches map[string]map[uint64]bool
	told    map[uint64]int // events since the last poll, lost ones too
	open    map[uint64]bool
}

func newLedger() *ledger {
	return &ledger{
		holds: map[string]map[uint64]int{}, given: map[string][2]uint64{}, owners: map[string]uint64{},
		watches: map[string]map[uint64]bool{}, told: map[uint64]int{}, open: map[uint64]bool{},
	}
}

func (l *ledger) tell(path string) {
	for id := range l.watches[path] {
		l.told[id]++
	}
	l.watches[path] = map[uint64]bool{}
}

func (l *ledger) letGo(id uint64, path string) {
	if _, held := l.holds[path][id]; !held {
		return
	}
	if delete(l.holds[path], id); len(l.holds[path]) == 0 {
		delete(l.given, path)
		l.tell(path)
	}
}

func (l *ledger) drop(path string) {
	l.tell(path)
	delete(l.holds, path)
	delete(l.given, path)
	delete(l.owners, path)
	delete(l.watches, path)
}

func (l *ledger) end(id uint64) {
	for _, w := range l.watches {
		delete(w, id)
	}
	for _, path := range slices.Sorted(maps.Keys(l.owners)) {
		l.letGo(id, path)
		if l.owners[path] == id {
			l.drop(path)
		}
	}
	delete(l.told, id)
	delete(l.open, id)
}

func (l *ledger) note(op impl.Op, reply impl.Reply) {
	path := string(op.Path)
	switch op.Kind {
	case impl.OpOpen:
		l.open[reply.Id] = true
	case impl.OpClose:
		l.end(op.Session)
	case impl.OpCreate:
		l.owners[path], l.holds[path], l.watches[path] = op.Session*uint64(op.Flag), map[uint64]int{}, map[uint64]bool{}
	case impl.OpDelete:
		l.drop(path)
	case impl.OpSet:
		l.tell(path)
	case impl.OpLock:
		l.holds[path][op.Session] = op.Flag
		if op.Flag == exclusive {
			l.given[path] = [2]uint64{reply.Epoch, reply.Gen}
		}
	case impl.OpUnlock:
		l.letGo(op.Session, path)
	case impl.OpWatch:
		l.watches[path][op.Session] = true
	case impl.OpPoll:
		l.told[op.Session] = 0
	}
}

// runWithLedger has the ledger as it is after each step.
func runWithLedger(seed int64, runs, steps int, look func(l *ledger, x step)) {
	r := rand.New(rand.NewSource(seed))
	for i := range runs {
		l := newLedger()
		runByChance(r, impl.State{Epoch: uint64(i)}, steps, func(x step) {
			if x.reply.Code == impl.CodeOK {
				l.note(x.op, x.reply)
			}
			look(l, x)
		})
	}
}

// Promise 6: by what was granted and let go, no two hold a lock together unless
// both share it, and who holds or owns is a live session; the state says so too.
func TestNoTwoHoldUnlessShared(t *testing.T) {
	together := 0
	runWithLedger(10, 25, 300, func(l *ledger, x step) {
		for path, holds := range l.holds {
			modes := slices.Collect(maps.Values(holds))
			if len(modes) > 1 {
				together++
				if slices.Contains(modes, exclusive) {
					t.Fatalf("%s: %s is held by %v", told(x.op), path, holds)
				}
			}
			n := nodeIn(&x.after, path)
			if holders := slices.Sorted(maps.Keys(holds)); !slices.Equal(n.Holders, holders) || len(modes) > 0 && n.Mode != modes[0] || len(modes) == 0 && n.Mode != free {
				t.Fatalf("%s: %s has mode %d, holders %v, and was given to %v", told(x.op), path, n.Mode, n.Holders, holds)
			}
			if n.Owner != l.owners[path] {
				t.Fatalf("%s: %s is owned by %d, not %d", told(x.op), path, n.Owner, l.owners[path])
			}
			for _, id := range append(n.Holders, n.Owner) {
				if id != 0 && (!l.open[id] || !knows(x.after, id)) {
					t.Fatalf("%s: %s is held or owned by %d, who is not there", told(x.op), path, id)
				}
			}
		}
	})
	if together < 50 {
		t.Errorf("the test itself is too narrow: %d shared locks with several holders", together)
	}
}

// Promise 7: sequencers strictly increase, on whatever paths.
func TestSequencersIncrease(t *testing.T) {
	var last [2]uint64
	paths := map[string]bool{}
	locks, deletes := 0, 0
	runWithLedger(11, 20, 500, func(_ *ledger, x step) {
		if x.op.Kind == impl.OpDelete && x.reply.Code == impl.CodeOK {
			deletes++
		}
		if x.op.Kind != impl.OpLock || x.op.Flag != exclusive || x.reply.Code != impl.CodeOK {
			return
		}
		now := [2]uint64{x.reply.Epoch, x.reply.Gen}
		if slices.Compare(now[:], last[:]) <= 0 {
			t.Fatalf("%v comes after %v", now, last)
		}
		last = now
		paths[string(x.op.Path)] = true
		locks++
	})
	if locks < 100 || deletes < 50 || len(paths) < 5 {
		t.Errorf("the test itself is too narrow: %d locks, %d deletes, %d paths", locks, deletes, len(paths))
	}
}

// Promise 7, on one path and by hand: what ends a lock doesn't matter.
func TestSequencersIncreaseWhateverEndsTheLock(t *testing.T) {
	ends := [][]impl.Op{
		{onNode(impl.OpUnlock, 1, "/n")},
		{onNode(impl.OpDelete, 1, "/n"), createOf(2, "/n", 0, "")},
		{onNode(impl.OpDelete, 1, "/n"), createOf(1, "/n", 1, "")},
		{ofSession(impl.OpClose, 2), onNode(impl.OpDelete, 1, "/n"), createOf(1, "/n", 0, "")},
	}
	s := locked(free)
	for i, end := range ends {
		next, r := impl.Apply(s, lockOf(1, "/n", exclusive))
		if told(r) != told(impl.Reply{Epoch: 5, Gen: 21 + uint64(i)}) {
			t.Errorf("lock %d: %s", i, told(r))
		}
		s = run(t, next, end...)
	}
	s = run(t, s, lockOf(1, "/n", exclusive), ofSession(impl.OpClose, 1))
	_, r := impl.Apply(s, lockOf(3, "/n", exclusive))
	if told(r) != told(impl.Reply{Epoch: 5, Gen: 26}) {
		t.Errorf("the lock after a close: %s", told(r))
	}
}

// Promise 8: over all that may be asked, by what was given.
func TestCheckIsExact(t *testing.T) {
	yes := 0
	runWithLedger(12, 6, 100, func(l *ledger, x step) {
		for _, path := range []string{"/a", "/b", "/a-", "/a/a", "/a/b", "/none"} {
			for _, c := range x.after.Sessions {
				given, held := l.given[path]
				epoch, gen := x.after.Epoch, x.after.Gen
				asked := [][2]uint64{given, {given[0], given[1] + 1}, {given[0], given[1] - 1}, {given[0] + 1, given[1]}, {0, 0}, {epoch, gen}, {epoch, 1}}
				for _, q := range asked {
					want := 0
					if held && l.holds[path][c.Id] == exclusive && q == given {
						want = 1
						yes++
					}
					after, r := impl.Apply(x.after, checkOf(c.Id, path, q[0], q[1]))
					if told(r) != told(impl.Reply{Num: want}) || told(after) != told(x.after) {
						t.Fatalf("check of %s by %d with %v: %s, want %d", path, c.Id, q, told(r), want)
					}
				}
			}
		}
	})
	if yes < 100 {
		t.Errorf("the test itself is too narrow: %d checks that are right", yes)
	}
}

// Promise 9: all is gone with the one request, and nothing of others.
func TestCloseLeavesNothing(t *testing.T) {
	r := rand.New(rand.NewSource(13))
	for range 300 {
		s := randomState(r)
		if len(s.Sessions) == 0 {
			continue
		}
		id := pick(r, s.Sessions...).Id
		after, reply := impl.Apply(s, ofSession(impl.OpClose, id))
		if told(reply) != told(impl.Reply{}) || knows(after, id) || len(after.Sessions) != len(s.Sessions)-1 {
			t.Fatalf("close of %d: %s", id, told(reply))
		}
		for _, n := range after.Nodes {
			if n.Owner == id || slices.Contains(n.Holders, id) || slices.Contains(n.Watchers, id) {
				t.Fatalf("%s has %d still: %s", n.Path, id, told(n))
			}
		}
		for _, n := range s.Nodes {
			i := nodeAt(after, string(n.Path))
			if i < 0 != (n.Owner == id) {
				t.Fatalf("%s of %d: at %d after the close of %d", n.Path, n.Owner, i, id)
			}
			if i < 0 {
				continue
			}
			if left := after.Nodes[i]; !slices.Equal(left.Holders, without(n.Holders, id)) || told(left.Value) != told(n.Value) || left.Owner != n.Owner {
				t.Fatalf("%s was %s, is %s", n.Path, told(n), told(left))
			}
		}
	}
}

// Promise 10: by what was watched and told, no watch yields two events, no
// queue is too long, and one that has lost events says so at its end.
func TestQueuesByTheLedger(t *testing.T) {
	lost, kept := 0, 0
	runWithLedger(14, 20, 400, func(l *ledger, x step) {
		for _, c := range x.after.Sessions {
			told := l.told[c.Id]
			overflow := len(c.Queue) > 0 && c.Queue[len(c.Queue)-1].Kind == impl.EvOverflow
			if len(c.Queue) != min(told, 8) || overflow != (told > 7) {
				t.Fatalf("%d was told %d events and has %v", c.Id, told, c.Queue)
			}
			if overflow {
				lost++
			} else if told > 0 {
				kept++
			}
		}
		for path, watches := range l.watches {
			if n := nodeIn(&x.after, path); !slices.Equal(n.Watchers, slices.Sorted(maps.Keys(watches))) {
				t.Fatalf("%s is watched by %v, not %v", path, n.Watchers, watches)
			}
		}
	})
	if lost < 50 || kept < 50 {
		t.Errorf("the test itself is too narrow: %d queues with an overflow, %d without", lost, kept)
	}
}

// Promise 10: a session that watches n times has at most n events, however much
// happens.
func TestNoMoreEventsThanWatches(t *testing.T) {
	for n := range 7 {
		s := locked(free)
		for i := range n {
			s = run(t, s, onNode(impl.OpWatch, 1, "/n"), setOf(2, "/n", fmt.Sprint(i)), setOf(3, "/n", ""))
		}
		s = run(t, s, lockOf(2, "/n", shared), onNode(impl.OpUnlock, 2, "/n"), onNode(impl.OpDelete, 2, "/n"))
		if got := len(s.Sessions[0].Queue); got != n {
			t.Errorf("%d watches, %d events", n, got)
		}
	}
}
