package tests

import (
	"bytes"
	"encoding/binary"
	"math"
	"slices"
	"testing"

	"loop.example/s02132/impl"
)

var openOp = impl.Op{Kind: impl.OpOpen}

// loaded and served put what Load, and what Start and Snap answer into one value;
// submitted what Submit and Sweep answer.
type loaded struct {
	State impl.State
	Seq   uint64
	Code  int
}

type served struct {
	Server impl.Server
	Code   int
}

type submitted struct {
	Server impl.Server
	Reply  impl.Reply
}

func safeFile(b []byte) impl.File {
	return impl.File{Data: b, Synced: len(b)}
}

func unsafeFile(b []byte) impl.File {
	return impl.File{Data: b}
}

func snapFile(seq uint64, s impl.State) impl.File {
	return safeFile(snapshotOf(seq, stateBytes(s)))
}

// opRecord is the record of a request, which need not be a good one.
func opRecord(seq uint64, op impl.Op) []byte {
	return recordOf(seq, string(opBytes(op)))
}

// opLog numbers the requests from seq on.
func opLog(seq uint64, ops ...impl.Op) []byte {
	var out []byte
	for i, op := range ops {
		out = append(out, opRecord(seq+uint64(i), op)...)
	}
	return out
}

// serverOf has the state in its Snap, and nothing in its Log.
func serverOf(s impl.State, seq uint64) impl.Server {
	return impl.Server{Disk: impl.Disk{Snap: snapFile(seq, s)}, State: s, Seq: seq}
}

// withLog has requests submitted, by the second server; each must be done.
func withLog(v impl.Server, ops ...impl.Op) impl.Server {
	for _, op := range ops {
		after, r := secondSubmitted(v, op)
		if r.Code != impl.CodeOK {
			panic("the test itself is wrong: " + told(op) + told(r))
		}
		v = after
	}
	return v
}

func logSynced(v impl.Server) impl.Server {
	v.Disk.Log.Synced = len(v.Disk.Log.Data)
	return v
}

// firstServer is what comes of nothing.
func firstServer() impl.Server {
	return serverOf(impl.State{Epoch: 1}, 0)
}

// ordinaryServer has half of its Log synced, and something in Temp.
func ordinaryServer() impl.Server {
	v := logSynced(withLog(serverOf(ordinaryState(), 41), openOp, createOf(1, "/new", 0, "v")))
	v = withLog(v, lockOf(300, "/new", exclusive), ofSession(impl.OpKeep, 301))
	v.Disk.Temp = newFile("left over", 4)
	return v
}

// fullServer has so many bytes left in its Log, by sets of which each takes from
// size to size + 40 bytes.
func fullServer(v impl.Server, left int) impl.Server {
	fill := setOf(v.State.Sessions[0].Id, "/z_9", "")
	size := frame + len(opBytes(fill))
	for {
		switch room := impl.MaxLog - left - len(v.Disk.Log.Data); {
		case room == 0:
			return v
		case room <= size+40:
			fill.Value = someBytes(room - size)
		case room >= 2*size+40:
			fill.Value = someBytes(40)
		default:
			fill.Value = nil
		}
		v = withLog(v, fill)
	}
}

// someServers are valid, each in a way of its own.
func someServers() []impl.Server {
	old := ordinaryServer()
	old.Disk = secondSnap(old.Disk, old.State, old.Seq, 4)
	oldAndMore := withLog(old, setOf(300, "/new", "more"))
	last := ordinaryState()
	spentCounters(&last)
	last.Epoch = impl.MaxCounter
	return []impl.Server{
		{}, firstServer(), withLog(impl.Server{}, openOp, createOf(1, "/a", 1, "own"), lockOf(1, "/a", exclusive)),
		serverOf(ordinaryState(), 0), serverOf(crowded(), 7), ordinaryServer(), old, oldAndMore, serverOf(last, impl.MaxCounter),
		withLog(serverOf(ordinaryState(), impl.MaxCounter-1), openOp), fullServer(ordinaryServer(), 0), fullServer(serverOf(ordinaryState(), 3), 20),
	}
}

func soundDisk(d impl.Disk) bool {
	for _, f := range []impl.File{d.Log, d.Snap, d.Temp} {
		if len(f.Data) > 200000 || f.Synced < 0 || f.Synced > len(f.Data) {
			return false
		}
	}
	return true
}

// secondRecords reads a log at the places that the lengths tell.
func secondRecords(b []byte) ([]impl.Record, int) {
	var out []impl.Record
	at := 0
	for len(b)-at >= frame {
		end := at + frame + int(binary.LittleEndian.Uint16(b[at:]))
		if end > len(b) || end > at+frame+1000 || !bytes.Equal(sumBehind(b[at:end-4]), b[at:end]) {
			break
		}
		r := impl.Record{Seq: binary.LittleEndian.Uint64(b[at+2:]), Body: b[at+10 : end-4]}
		if n := len(out); n > 0 && (out[n-1].Seq == math.MaxUint64 || r.Seq != out[n-1].Seq+1) {
			break
		}
		out = append(out, r)
		at = end
	}
	return out, at
}

// readOp is a second reader of requests: the request, and whether it is one.
func readOp(b []byte) (impl.Op, bool) {
	r := &strictReader{rest: b}
	op := impl.Op{Kind: r.mode(), Session: r.varint(), Path: r.text(), Flag: r.mode(), Value: r.text()}
	if r.bad || len(r.rest) > 0 || !formed(op) || !opRows[op.Kind-1].journaled {
		return impl.Op{}, false
	}
	return op, true
}

func readSnapshot(b []byte) (impl.State, uint64, bool) {
	if len(b) == 0 {
		return impl.State{}, 0, true
	}
	if len(b) < snapFrame || string(b[:4]) != "LHS1" || uint64(binary.LittleEndian.Uint32(b[12:])) != uint64(len(b)-snapFrame) ||
		!bytes.Equal(sumBehind(b[:len(b)-4]), b) || binary.LittleEndian.Uint64(b[4:]) > 1<<62 {
		return impl.State{}, 0, false
	}
	s, ok := readState(b[16 : len(b)-4])
	return s, binary.LittleEndian.Uint64(b[4:]), ok
}

func secondLoad(d impl.Disk) loaded {
	if !soundDisk(d) {
		return loaded{Code: impl.CodeBad}
	}
	s, seq, ok := readSnapshot(d.Snap.Data)
	if !ok {
		return loaded{Code: impl.CodeCorrupt}
	}
	records, _ := secondRecords(d.Log.Data)
	records = slices.DeleteFunc(records, func(r impl.Record) bool { return r.Seq <= seq })
	for i, r := range records {
		op, ok := readOp(r.Body)
		after, reply := secondApply(s, op)
		if r.Seq != seq+1 || r.Seq > 1<<62 || !ok || reply.Code != impl.CodeOK {
			records = records[:i]
			break
		}
		s, seq = after, r.Seq
	}
	return loaded{State: durableOf(s), Seq: seq}
}

// soundServer is the document's valid server.
func soundServer(v impl.Server) bool {
	log := v.Disk.Log.Data
	records, taken := secondRecords(log)
	if !soundDisk(v.Disk) || !soundState(v.State) || len(log) > 4000 || taken != len(log) || v.Disk.Snap.Synced != len(v.Disk.Snap.Data) {
		return false
	}
	if n := len(records); n > 0 && records[n-1].Seq != v.Seq {
		return false
	}
	return told(secondLoad(v.Disk)) == told(loaded{State: durableOf(v.State), Seq: v.Seq})
}

// secondSnap says what each number of steps leaves.
func secondSnap(d impl.Disk, s impl.State, seq uint64, steps int) impl.Disk {
	b := snapshotOf(seq, stateBytes(s))
	switch steps {
	case 1:
		d.Temp = impl.File{}
	case 2:
		d.Temp = unsafeFile(b)
	case 3:
		d.Temp = safeFile(b)
	case 4:
		d.Temp, d.Snap = impl.File{}, safeFile(b)
	case 5:
		d.Temp, d.Snap, d.Log = impl.File{}, safeFile(b), impl.File{}
	}
	return d
}

func secondStart(d impl.Disk, now, steps int) served {
	if !soundDisk(d) || now < 0 || now > 1000000 || steps < 0 || steps > 5 {
		return served{Code: impl.CodeBad}
	}
	l := secondLoad(d)
	if l.Code != impl.CodeOK {
		return served{Code: l.Code}
	}
	if l.State.Epoch == 1<<62 {
		return served{Code: impl.CodeCounter}
	}
	l.State.Epoch++
	s, _ := secondRegrace(l.State, now)
	d = secondSnap(d, s, l.Seq, steps)
	if steps < 5 {
		return served{impl.Server{Disk: d}, impl.CodePending}
	}
	return served{impl.Server{Disk: d, State: s, Seq: l.Seq}, impl.CodeOK}
}

func secondSnapped(v impl.Server, steps int) served {
	if !soundServer(v) || steps < 0 || steps > 5 {
		return served{Code: impl.CodeBad}
	}
	v.Disk = secondSnap(v.Disk, v.State, v.Seq, steps)
	if steps < 5 {
		return served{v, impl.CodePending}
	}
	return served{v, impl.CodeOK}
}

func secondSubmit(v impl.Server, op impl.Op) (impl.Server, impl.Reply) {
	if !soundServer(v) {
		return impl.Server{}, impl.Reply{Code: impl.CodeBad}
	}
	return secondSubmitted(v, op)
}

// secondSubmitted counts on a valid server.
func secondSubmitted(v impl.Server, op impl.Op) (impl.Server, impl.Reply) {
	s, reply := secondApply(v.State, op)
	if reply.Code == impl.CodeOK && opRows[op.Kind-1].journaled {
		if v.Seq == 1<<62 {
			return v, impl.Reply{Code: impl.CodeCounter}
		}
		log := slices.Concat(v.Disk.Log.Data, opRecord(v.Seq+1, op))
		if len(log) > 4000 {
			return v, impl.Reply{Code: impl.CodeFull}
		}
		v.Disk.Log.Data = log
		v.Seq++
	}
	v.State = s
	return v, reply
}

func secondSweep(v impl.Server) (impl.Server, impl.Reply) {
	if !soundServer(v) {
		return impl.Server{}, impl.Reply{Code: impl.CodeBad}
	}
	closed := 0
	for _, id := range secondExpired(v.State) {
		after, reply := secondSubmitted(v, ofSession(impl.OpClose, id))
		if reply.Code != impl.CodeOK {
			return v, impl.Reply{Code: reply.Code, Num: closed}
		}
		v = after
		closed++
	}
	return v, impl.Reply{Num: closed}
}

func load(d impl.Disk) loaded {
	s, seq, code := impl.Load(d)
	return loaded{s, seq, code}
}

func start(d impl.Disk, now, steps int) served {
	v, code := impl.Start(d, now, steps)
	return served{v, code}
}

func snap(v impl.Server, steps int) served {
	v, code := impl.Snap(v, steps)
	return served{v, code}
}

func submit(v impl.Server, op impl.Op) submitted {
	v, r := impl.Submit(v, op)
	return submitted{v, r}
}

func sweep(v impl.Server) submitted {
	v, r := impl.Sweep(v)
	return submitted{v, r}
}

func want[A any](t *testing.T, what string, got, want A) {
	t.Helper()
	if told(got) != told(want) {
		t.Errorf("%s: %.3000s, want %.3000s", what, told(got), told(want))
	}
}

func wantLoad(t *testing.T, what string, d impl.Disk, s impl.State, seq uint64) {
	t.Helper()
	if !soundState(s) {
		t.Fatalf("%s: the test itself is wrong", what)
	}
	want(t, what, load(d), loaded{State: durableOf(s), Seq: seq})
}

func wantNoLoad(t *testing.T, what string, d impl.Disk, code int) {
	t.Helper()
	want(t, what, load(d), loaded{Code: code})
}

// wantSound asks for a valid server, by both judges: a snap with no steps is
// refused only if it is none.
func wantSound(t *testing.T, what string, v impl.Server, sound bool) {
	t.Helper()
	if soundServer(v) != sound {
		t.Errorf("%s: a valid server: %v, want %v", what, !sound, sound)
	}
	wanted := served{v, impl.CodePending}
	if !sound {
		wanted = served{Code: impl.CodeBad}
	}
	want(t, what+", snap with no steps", snap(v, 0), wanted)
}

// wantSubmitted asks for the whole answer, and for a valid server.
func wantSubmitted(t *testing.T, what string, v impl.Server, op impl.Op, after impl.Server, reply impl.Reply) impl.Server {
	t.Helper()
	got := submit(v, op)
	want(t, what, got, submitted{after, reply})
	wantSound(t, what, got.Server, true)
	return got.Server
}

func wantSwept(t *testing.T, what string, v impl.Server, after impl.Server, reply impl.Reply) impl.Server {
	t.Helper()
	got := sweep(v)
	want(t, what, got, submitted{after, reply})
	wantSound(t, what, got.Server, true)
	return got.Server
}
