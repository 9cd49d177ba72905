package tests

import (
	"fmt"
	"math"
	"math/rand"
	"slices"
	"strings"
	"testing"

	"loop.example/s02132/impl"
)

func TestStartOfNothing(t *testing.T) {
	for _, now := range []int{0, 1, 77, impl.MaxNow} {
		v := firstServer()
		v.State.Now = now
		want(t, fmt.Sprint("at ", now), start(impl.Disk{}, now, 5), served{v, impl.CodeOK})
		wantSound(t, fmt.Sprint("at ", now), v, true)
	}
}

// Every number of steps, by hand: what was in Temp goes at once, the new Snap
// comes with the fourth step, and the Log goes with the fifth.
func TestStartStepByStep(t *testing.T) {
	before := withLog(serverOf(impl.State{Epoch: 8, Gen: 3}, 20), openOp)
	before.Disk.Temp = newFile("left over", 4)
	d := before.Disk
	s := impl.State{Epoch: 9, Gen: 3, Next: 1, Now: 50, Sessions: []impl.Session{{Id: 1, Deadline: 65}}}
	b := snapshotOf(21, []byte{9, 3, 1, 1, 1, 0})
	disks := []impl.Disk{
		d,
		{Log: d.Log, Snap: d.Snap},
		{Log: d.Log, Snap: d.Snap, Temp: unsafeFile(b)},
		{Log: d.Log, Snap: d.Snap, Temp: safeFile(b)},
		{Log: d.Log, Snap: safeFile(b)},
	}
	for steps, disk := range disks {
		want(t, fmt.Sprint(steps, " steps"), start(d, 50, steps), served{impl.Server{Disk: disk}, impl.CodePending})
	}
	want(t, "all steps", start(d, 50, 5), served{impl.Server{Disk: impl.Disk{Snap: safeFile(b)}, State: s, Seq: 21}, impl.CodeOK})
}

func TestSnapStepByStep(t *testing.T) {
	v := withLog(serverOf(impl.State{Epoch: 8, Gen: 3, Now: 50}, 20), openOp)
	v.Disk.Log.Synced = 7
	v.Disk.Temp = newFile("left over", 4)
	d := v.Disk
	b := snapshotOf(21, []byte{8, 3, 1, 1, 1, 0})
	disks := []impl.Disk{
		d,
		{Log: d.Log, Snap: d.Snap},
		{Log: d.Log, Snap: d.Snap, Temp: unsafeFile(b)},
		{Log: d.Log, Snap: d.Snap, Temp: safeFile(b)},
		{Log: d.Log, Snap: safeFile(b)},
		{Snap: safeFile(b)},
	}
	for steps, disk := range disks {
		code := impl.CodePending
		if steps == 5 {
			code = impl.CodeOK
		}
		after := impl.Server{Disk: disk, State: v.State, Seq: 21}
		want(t, fmt.Sprint(steps, " steps"), snap(v, steps), served{after, code})
		wantSound(t, fmt.Sprint(steps, " steps"), after, true)
	}
}

func TestStepsOutsideTheirRange(t *testing.T) {
	for i, v := range someServers() {
		for _, steps := range []int{-1, 6, 7, -5, 1 << 32, math.MaxInt, math.MinInt} {
			want(t, fmt.Sprintf("server %d, start with %d", i, steps), start(v.Disk, 0, steps), served{Code: impl.CodeBad})
			want(t, fmt.Sprintf("server %d, snap with %d", i, steps), snap(v, steps), served{Code: impl.CodeBad})
		}
	}
}

func TestStartAtTheLimitsOfTime(t *testing.T) {
	d := ordinaryServer().Disk
	for steps := range 6 {
		for _, now := range []int{0, 1, impl.MaxNow - 1, impl.MaxNow} {
			want(t, fmt.Sprintf("at %d, %d steps", now, steps), start(d, now, steps), secondStart(d, now, steps))
		}
		for _, now := range []int{-1, -2, impl.MaxNow + 1, 1 << 32, math.MaxInt, math.MinInt} {
			want(t, fmt.Sprintf("at %d, %d steps", now, steps), start(d, now, steps), served{Code: impl.CodeBad})
		}
	}
	v, _ := impl.Start(d, impl.MaxNow, 5)
	for _, c := range v.State.Sessions {
		if c.Deadline != impl.MaxNow+15 {
			t.Errorf("the deadline of %d is %d", c.Id, c.Deadline)
		}
	}
}

// The greatest epoch is given, but none behind it; and that no epoch is left is
// told before anything is written.
func TestStartAtTheLastEpoch(t *testing.T) {
	s := ordinaryState()
	s.Epoch = impl.MaxCounter - 1
	for steps := range 6 {
		d := serverOf(s, 5).Disk
		got := start(d, 9, steps)
		want(t, fmt.Sprint("the last one, ", steps, " steps"), got, secondStart(d, 9, steps))
		if steps == 5 && got.Server.State.Epoch != impl.MaxCounter {
			t.Errorf("epoch %d", got.Server.State.Epoch)
		}
	}
	s.Epoch = impl.MaxCounter
	for steps := range 6 {
		want(t, fmt.Sprint("no epoch left, ", steps, " steps"), start(serverOf(s, 5).Disk, 9, steps), served{Code: impl.CodeCounter})
	}
	want(t, "no epoch left, steps -1", start(serverOf(s, 5).Disk, 9, -1), served{Code: impl.CodeBad})
	want(t, "no epoch left, time -1", start(serverOf(s, 5).Disk, -1, 5), served{Code: impl.CodeBad})
}

// A Start comes from whatever Load can read; of a Log with a torn tail or one
// that ends early nothing is left.
func TestStartOfAnyDisk(t *testing.T) {
	disks := map[string]impl.Disk{
		"a torn tail":     {Log: safeFile(opLog(1, openOp, openOp)[:30])},
		"rubbish":         {Log: newFile("rubbish", 2), Temp: newFile("more", 0)},
		"a refused one":   {Log: safeFile(opLog(1, openOp, ofSession(impl.OpClose, 9), openOp))},
		"a long log":      {Log: safeFile(opLog(1, slices.Repeat([]impl.Op{openOp, ofSession(impl.OpClose, 1)}, 200)...))},
		"a full log":      fullServer(ordinaryServer(), 0).Disk,
		"no sync at all":  {Log: unsafeFile(opLog(3, openOp)), Snap: unsafeFile(snapshotOf(2, stateBytes(ordinaryState())))},
		"the last number": serverOf(ordinaryState(), impl.MaxCounter).Disk,
	}
	for name, d := range disks {
		for steps := range 6 {
			want(t, fmt.Sprintf("%s, %d steps", name, steps), start(d, 30, steps), secondStart(d, 30, steps))
		}
		v, code := impl.Start(d, 30, 5)
		wantCode(t, name, code, impl.CodeOK)
		wantSound(t, name, v, true)
	}
	for _, f := range invalidFiles() {
		for _, file := range everyFile {
			d := ordinaryServer().Disk
			*fileAt(&d, file) = f
			for steps := -1; steps <= 6; steps++ {
				want(t, fmt.Sprintf("a wrong file %d, %d steps", file, steps), start(d, 30, steps), served{Code: impl.CodeBad})
			}
		}
	}
}

// wrongServer is one that breaks a rule of the valid ones.
type wrongServer struct {
	name string
	v    impl.Server
}

func changedServer(do func(v *impl.Server)) impl.Server {
	v := roomyOf(ordinaryServer())
	do(&v)
	return v
}

// longServer has a Log that is too long by so many bytes.
func longServer(more int) impl.Server {
	v := fullServer(ordinaryServer(), 50-more)
	op := setOf(1, "/z_9", string(someBytes(50-frame-len(opBytes(setOf(1, "/z_9", ""))))))
	v.Disk.Log.Data = slices.Concat(v.Disk.Log.Data, opRecord(v.Seq+1, op))
	v.State, _ = secondApply(v.State, op)
	v.Seq++
	return v
}

// wrongServers goes through what 6.2 says of a valid server.
func wrongServers() []wrongServer {
	var out []wrongServer
	add := func(name string, do func(v *impl.Server)) {
		out = append(out, wrongServer{name, changedServer(do)})
	}
	for i, f := range invalidFiles() {
		for _, file := range everyFile {
			add(fmt.Sprintf("wrong file %d as %d", i, file), func(v *impl.Server) { *fileAt(&v.Disk, file) = f })
		}
	}
	for name, s := range wrongStates() {
		add(name, func(v *impl.Server) { v.State = s })
		out = append(out, wrongServer{name + " in a Snap too", serverOf(s, 3)})
	}
	out = append(out, wrongServer{"a Log too long", longServer(1)})
	add("a torn tail", func(v *impl.Server) { v.Disk.Log.Data = append(v.Disk.Log.Data, opRecord(v.Seq+1, openOp)[:18]...) })
	add("a byte behind the Log", func(v *impl.Server) { v.Disk.Log.Data = append(v.Disk.Log.Data, 0) })
	add("a torn record", func(v *impl.Server) { v.Disk.Log.Data = turned(v.Disk.Log.Data, 8*len(v.Disk.Log.Data)-1) })
	add("a gap in the Log", func(v *impl.Server) { v.Disk.Log.Data = append(v.Disk.Log.Data, opRecord(v.Seq+2, openOp)...) })
	add("a record that is not done", func(v *impl.Server) { v.Disk.Log.Data = append(v.Disk.Log.Data, opRecord(v.Seq+1, openOp)...) })
	add("a record that is refused", func(v *impl.Server) {
		v.Disk.Log.Data = append(v.Disk.Log.Data, opRecord(v.Seq+1, ofSession(impl.OpClose, 9))...)
	})
	add("a refused record that is counted", func(v *impl.Server) {
		v.Disk.Log.Data = append(v.Disk.Log.Data, opRecord(v.Seq+1, ofSession(impl.OpClose, 9))...)
		v.Seq++
	})
	out = append(out, wrongServer{"an older Log", impl.Server{Disk: impl.Disk{Snap: snapFile(9, ordinaryState()), Log: safeFile(opLog(7, openOp))}, State: ordinaryState(), Seq: 9}})
	add("no Log", func(v *impl.Server) { v.Disk.Log = impl.File{} })
	add("no Snap", func(v *impl.Server) { v.Disk.Snap = impl.File{} })
	add("a corrupt Snap", func(v *impl.Server) { v.Disk.Snap = safeFile(turned(v.Disk.Snap.Data, 100)) })
	add("a Snap that is not synced", func(v *impl.Server) { v.Disk.Snap.Synced = 0 })
	add("a Snap that is synced but for a byte", func(v *impl.Server) { v.Disk.Snap.Synced-- })
	add("a Snap with a number too great", func(v *impl.Server) { *v = serverOf(ordinaryState(), impl.MaxCounter+1) })
	add("Seq one more", func(v *impl.Server) { v.Seq++ })
	add("Seq one less", func(v *impl.Server) { v.Seq-- })
	add("Seq 0", func(v *impl.Server) { v.Seq = 0 })
	// A disk that can't be loaded is not one that holds nothing.
	out = append(out, wrongServer{"a corrupt Snap of nothing", impl.Server{Disk: impl.Disk{Snap: newFile("none", 4)}}})
	for i, f := range invalidFiles() {
		out = append(out, wrongServer{fmt.Sprintf("wrong file %d of nothing", i), impl.Server{Disk: impl.Disk{Temp: f}}})
	}
	out = append(out, wrongServer{"a Seq without a record", impl.Server{Seq: 1}}, wrongServer{"the greatest Seq", impl.Server{Seq: math.MaxUint64}})
	differ := func(name string, do func(v *impl.Server)) {
		add(name, do)
		if v := out[len(out)-1].v; !soundDisk(v.Disk) || !soundState(v.State) {
			panic("the test itself is wrong: " + name)
		}
	}
	differ("another Epoch", func(v *impl.Server) { v.State.Epoch++ })
	differ("another Gen", func(v *impl.Server) { v.State.Gen++ })
	differ("another Next", func(v *impl.Server) { v.State.Next++ })
	differ("a session more", func(v *impl.Server) {
		v.State.Sessions = slices.Insert(v.State.Sessions, 1, impl.Session{Id: 7})
	})
	differ("a session less", func(v *impl.Server) { v.State = run1(v.State, ofSession(impl.OpClose, 301)) })
	differ("a node more", func(v *impl.Server) { putNode(&v.State, impl.Node{Path: []byte("/zz")}) })
	differ("a node less", func(v *impl.Server) { dropNode(&v.State, "/z_9") })
	differ("another Path", func(v *impl.Server) { nodeIn(&v.State, "/z_9").Path = []byte("/z_8") })
	differ("another Value", func(v *impl.Server) { nodeIn(&v.State, "/a").Value = []byte("hellO") })
	differ("another Owner", func(v *impl.Server) { nodeIn(&v.State, "/a/b/own").Owner = 1 })
	differ("another Mode", func(v *impl.Server) {
		n := nodeIn(&v.State, "/a-b")
		n.Mode, n.Epoch, n.Gen = shared, 0, 0
	})
	differ("another holder", func(v *impl.Server) { nodeIn(&v.State, "/a-b").Holders = idsOf(1) })
	differ("a holder less", func(v *impl.Server) { nodeIn(&v.State, "/a/b").Holders = idsOf(1, 130) })
	differ("another sequencer's Epoch", func(v *impl.Server) { nodeIn(&v.State, "/a-b").Epoch++ })
	differ("another sequencer's Gen", func(v *impl.Server) { nodeIn(&v.State, "/a-b").Gen++ })
	return out
}

// run1 is one request that must be done.
func run1(s impl.State, op impl.Op) impl.State {
	s, r := secondApply(s, op)
	if r.Code != impl.CodeOK {
		panic("the test itself is wrong")
	}
	return s
}

func TestServersThatAreNotValid(t *testing.T) {
	for _, x := range wrongServers() {
		wantSound(t, x.name, x.v, false)
		for steps := range 6 {
			want(t, fmt.Sprintf("%s, snap with %d", x.name, steps), snap(x.v, steps), served{Code: impl.CodeBad})
		}
		for _, r := range opRows {
			for _, op := range []impl.Op{unflawed(r), r.bare(), {Kind: r.kind, Flag: 99}} {
				want(t, fmt.Sprintf("%s, kind %d", x.name, op.Kind), submit(x.v, op), submitted{Reply: impl.Reply{Code: impl.CodeBad}})
			}
		}
		want(t, x.name+", sweep", sweep(x.v), submitted{Reply: impl.Reply{Code: impl.CodeBad}})
	}
}

func TestServersThatAreValid(t *testing.T) {
	for i, v := range someServers() {
		wantSound(t, fmt.Sprint("server ", i), v, true)
	}
	wantSound(t, "the longest Log", longServer(0), true)
	// What is not durable may be anything that a valid state has.
	loose := map[string]func(v *impl.Server){
		"another Now":        func(v *impl.Server) { v.State.Now = impl.MaxNow },
		"other deadlines":    func(v *impl.Server) { v.State.Sessions[0].Deadline, v.State.Sessions[1].Deadline = 0, impl.MaxNow+15 },
		"other queues":       func(v *impl.Server) { v.State.Sessions[0].Queue, v.State.Sessions[2].Queue = nil, queueOf("/q") },
		"other watchers":     func(v *impl.Server) { v.State.Nodes[0].Watchers, v.State.Nodes[1].Watchers = nil, idsOf(1, 301) },
		"a Log synced":       func(v *impl.Server) { v.Disk.Log.Synced = len(v.Disk.Log.Data) },
		"a Log not synced":   func(v *impl.Server) { v.Disk.Log.Synced = 0 },
		"an empty Temp":      func(v *impl.Server) { v.Disk.Temp = impl.File{} },
		"another snap there": func(v *impl.Server) { v.Disk.Temp = snapFile(99, flatState(2, 2)) },
		"a full Temp":        func(v *impl.Server) { v.Disk.Temp = zeroFile(impl.MaxFile, 0) },
	}
	for name, do := range loose {
		wantSound(t, name, changedServer(do), true)
	}
}

// Promise 12: Load answers what the server has, after every number of steps, and
// the server goes on from there.
func TestSnapsAreValidServers(t *testing.T) {
	for i, v := range someServers() {
		for steps := range 6 {
			what := fmt.Sprintf("server %d, %d steps", i, steps)
			got := snap(v, steps)
			want(t, what, got, secondSnapped(v, steps))
			wantSound(t, what, got.Server, true)
			wantLoad(t, what, got.Server.Disk, v.State, v.Seq)
			after, reply := secondSubmit(got.Server, openOp)
			wantSubmitted(t, what+", then an open", got.Server, openOp, after, reply)
			again := snap(got.Server, 5)
			want(t, what+", then all", again, served{impl.Server{Disk: impl.Disk{Snap: snapFile(v.Seq, v.State)}, State: v.State, Seq: v.Seq}, impl.CodeOK})
		}
	}
}

// greatestState has as many bytes as a valid state can have: 50 sessions with the
// greatest numbers, who all hold the locks of 200 nodes with the longest paths.
func greatestState() impl.State {
	s := flatState(impl.MaxSessions, 0)
	s.Epoch, s.Gen, s.Next = impl.MaxCounter, impl.MaxCounter, impl.MaxCounter
	var ids []uint64
	for i := range s.Sessions {
		s.Sessions[i].Id = impl.MaxCounter - uint64(impl.MaxSessions-1-i)
		ids = append(ids, s.Sessions[i].Id)
	}
	name, path := "/"+strings.Repeat("n", impl.MaxName), ""
	for range impl.MaxDepth - 1 {
		path += name
		putNode(&s, impl.Node{Path: []byte(path)})
	}
	for i := range impl.MaxNodes - impl.MaxDepth + 1 {
		putNode(&s, impl.Node{Path: fmt.Appendf(nil, "%s/%016d", path, i), Owner: impl.MaxCounter})
	}
	for i := range s.Nodes {
		s.Nodes[i].Value, s.Nodes[i].Mode, s.Nodes[i].Holders = someBytes(impl.MaxValue), shared, ids
	}
	return s
}

func TestTheGreatestSnapshotFits(t *testing.T) {
	s := greatestState()
	v := serverOf(s, impl.MaxCounter)
	if n := len(v.Disk.Snap.Data); n < 120000 || n > impl.MaxFile {
		t.Fatalf("the test itself is wrong: %d bytes", n)
	}
	wantSound(t, "the greatest", v, true)
	for steps := range 6 {
		want(t, fmt.Sprint("snap with ", steps), snap(v, steps), secondSnapped(v, steps))
	}
	s.Epoch--
	d := serverOf(s, impl.MaxCounter).Disk
	for steps := range 6 {
		want(t, fmt.Sprint("start with ", steps), start(d, impl.MaxNow, steps), secondStart(d, impl.MaxNow, steps))
	}
}

// A crash at any place of a snap loses nothing that was synced before, and with
// the fourth step what was not.
func TestCrashInASnap(t *testing.T) {
	safe := logSynced(withLog(serverOf(ordinaryState(), 41), openOp))
	v := withLog(safe, openOp, setOf(1, "/a", "new"))
	for steps := range 6 {
		for keep := range 300 {
			x, _ := impl.Snap(v, steps)
			d, _ := impl.DiskCrash(x.Disk, keep)
			what := fmt.Sprintf("%d steps, %d kept", steps, keep)
			one, rest := len(opRecord(43, openOp)), len(v.Disk.Log.Data)-len(safe.Disk.Log.Data)
			switch {
			case steps >= 4 || keep >= rest:
				wantLoad(t, what, d, v.State, v.Seq)
			case keep >= one:
				wantLoad(t, what, d, run1(safe.State, openOp), safe.Seq+1)
			default:
				wantLoad(t, what, d, safe.State, safe.Seq)
			}
		}
	}
}

// keepsOf has few numbers of bytes to keep, with those around a file's end.
func keepsOf(d impl.Disk) []int {
	keeps := []int{0, 1, 18, 19, 20, math.MaxInt}
	for _, f := range []impl.File{d.Log, d.Temp} {
		left := len(f.Data) - f.Synced
		keeps = append(keeps, max(0, left-1), left, left/2)
	}
	slices.Sort(keeps)
	return slices.Compact(keeps)
}

// wantReturn asks for the loaded state under a greater Epoch, with its grace.
func wantReturn(t *testing.T, what string, got served, l impl.State, seq uint64, now int) {
	t.Helper()
	if got.Server.State.Epoch <= l.Epoch {
		t.Errorf("%s: epoch %d after %d", what, got.Server.State.Epoch, l.Epoch)
	}
	l.Epoch = got.Server.State.Epoch
	s, _ := secondRegrace(l, now)
	want(t, what, got, served{serverOf(s, seq), impl.CodeOK})
	wantSound(t, what, got.Server, true)
}

// Promise 14: after a crash, and with returns that are cut and crash in their
// turn, the state is the loaded one, and the epoch greater than before. By the
// fourth step a return has counted.
func TestReturnsThatAreCut(t *testing.T) {
	disks := []impl.Disk{{}, ordinaryServer().Disk, {Log: safeFile(opLog(1, openOp, openOp)[:30])}, someServers()[6].Disk}
	for i, before := range disks {
		for _, keep := range keepsOf(before) {
			d, _ := impl.DiskCrash(before, keep)
			l := load(d)
			for first := range 6 {
				cut, code := impl.Start(d, 60, first)
				wantCode(t, "the first", code, firstOf(first < 5, impl.CodePending))
				for _, again := range keepsOf(cut.Disk) {
					torn, _ := impl.DiskCrash(cut.Disk, again)
					what := fmt.Sprintf("disk %d, %d kept, %d steps, %d kept", i, keep, first, again)
					got := start(torn, 61, 5)
					wantReturn(t, what, got, l.State, l.Seq, 61)
					if epoch := l.State.Epoch + 1 + uint64(firstOf(first >= 4, 1)); got.Server.State.Epoch != epoch {
						t.Errorf("%s: epoch %d, want %d", what, got.Server.State.Epoch, epoch)
					}
				}
			}
		}
	}
}

// Promise 14: any number of cuts, one after another.
func TestReturnsThatAreCutOftenAgain(t *testing.T) {
	r := rand.New(rand.NewSource(22))
	for i := range 150 {
		v := pick(r, ordinaryServer(), firstServer(), serverOf(flatState(5, 3), 1000))
		d, _ := impl.DiskCrash(v.Disk, r.Intn(100))
		l := load(d)
		epoch := l.State.Epoch
		for range r.Intn(6) {
			steps := r.Intn(6)
			cut, _ := impl.Start(d, r.Intn(100), steps)
			d, _ = impl.DiskCrash(cut.Disk, r.Intn(300))
			if steps >= 4 {
				epoch++
			}
		}
		got := start(d, 100, 5)
		wantReturn(t, fmt.Sprint("run ", i), got, l.State, l.Seq, 100)
		if got.Server.State.Epoch != epoch+1 {
			t.Errorf("run %d: epoch %d, want %d", i, got.Server.State.Epoch, epoch+1)
		}
	}
}
