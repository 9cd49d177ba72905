package tests

import (
	"fmt"
	"math"
	"math/rand"
	"slices"
	"testing"

	"loop.example/s02132/impl"
)

func TestServerNumbers(t *testing.T) {
	got := []int{impl.MaxPending, impl.MaxLines, impl.SnapSteps, impl.MaxLog,
		impl.CmdOp, impl.CmdTick, impl.CmdSweep, impl.CmdFlush, impl.CmdSnap, impl.CmdCrash, impl.CmdSnapCrash}
	if want := []int{16, 500, 5, 4000, 0, 1, 2, 3, 4, 5, 6}; !slices.Equal(got, want) {
		t.Errorf("constants %v, want %v", got, want)
	}
}

func TestLoadOfNothing(t *testing.T) {
	wantLoad(t, "an empty disk", impl.Disk{}, impl.State{}, 0)
	wantLoad(t, "empty lists", impl.Disk{Log: newFile("", 0), Snap: newFile("", 0), Temp: newFile("", 0)}, impl.State{}, 0)
}

func TestLoadOfASnapAlone(t *testing.T) {
	for i, s := range append(someStates(), crowded()) {
		for _, seq := range []uint64{0, 1, 300, impl.MaxCounter - 1, impl.MaxCounter} {
			wantLoad(t, fmt.Sprintf("state %d, number %d", i, seq), impl.Disk{Snap: snapFile(seq, s)}, s, seq)
		}
	}
}

// Sessions have no deadline and nodes no watcher, whatever the requests gave.
func TestLoadOfALogAlone(t *testing.T) {
	d := impl.Disk{Log: safeFile(opLog(1, openOp, openOp, createOf(1, "/a", 0, "v"), lockOf(2, "/a", exclusive), createOf(2, "/own", 1, ""), setOf(2, "/a", "w")))}
	wantLoad(t, "six records", d, impl.State{
		Gen: 1, Next: 2, Sessions: []impl.Session{{Id: 1}, {Id: 2}},
		Nodes: []impl.Node{{Path: []byte("/a"), Value: []byte("w"), Mode: exclusive, Holders: idsOf(2), Gen: 1}, {Path: []byte("/own"), Owner: 2}},
	}, 6)
	d.Log = safeFile(append(d.Log.Data, opLog(7, ofSession(impl.OpClose, 2), onNode(impl.OpDelete, 1, "/a"))...))
	wantLoad(t, "eight records", d, impl.State{Gen: 1, Next: 2, Sessions: []impl.Session{{Id: 1}}}, 8)
}

func TestLoadOfASnapAndALog(t *testing.T) {
	d := impl.Disk{Snap: snapFile(9, ordinaryState()), Log: safeFile(opLog(10, openOp, lockOf(301, "/a", exclusive)))}
	s := ordinaryState()
	s.Gen, s.Next = 501, 301
	s.Sessions = append(s.Sessions, impl.Session{Id: 301})
	s.Nodes[0].Mode, s.Nodes[0].Holders, s.Nodes[0].Epoch, s.Nodes[0].Gen = exclusive, idsOf(301), 3, 501
	wantLoad(t, "two records", d, s, 11)
}

// What a snapshot tells of already is not done again, and not even read.
func TestLoadPassesByOldRecords(t *testing.T) {
	s := impl.State{Epoch: 4, Next: 1, Sessions: []impl.Session{{Id: 1}}}
	two := impl.State{Epoch: 4, Next: 2, Sessions: []impl.Session{{Id: 1}, {Id: 2}}}
	snap := snapFile(9, s)
	logs := []struct {
		name string
		log  []byte
		seq  uint64
	}{
		{"old ones", opLog(7, openOp, openOp, openOp), 9},
		{"older ones", opLog(2, openOp, openOp), 9},
		{"an old one and a new one", opLog(9, openOp, openOp), 10},
		{"from 0 on", opLog(0, slices.Repeat([]impl.Op{openOp}, 11)...), 10},
		{"an old one that is no request", slices.Concat(recordOf(9, "none"), opRecord(10, openOp)), 10},
		{"an old one without a body", slices.Concat(recordOf(9, ""), opRecord(10, openOp)), 10},
		{"an old one that is refused", slices.Concat(opRecord(9, ofSession(impl.OpClose, 7)), opRecord(10, openOp)), 10},
		{"an old one of another kind", slices.Concat(opRecord(9, ofSession(impl.OpKeep, 1)), opRecord(10, openOp)), 10},
		{"a gap between old ones", slices.Concat(opRecord(3, openOp), opRecord(5, openOp), opRecord(10, openOp)), 9},
	}
	for _, x := range logs {
		if x.seq == 9 {
			wantLoad(t, x.name, impl.Disk{Snap: snap, Log: safeFile(x.log)}, s, 9)
		} else {
			wantLoad(t, x.name, impl.Disk{Snap: snap, Log: safeFile(x.log)}, two, 10)
		}
	}
	one := impl.State{Next: 1, Sessions: []impl.Session{{Id: 1}}}
	wantLoad(t, "a record 0 without a snap", impl.Disk{Log: safeFile(opLog(0, openOp, openOp))}, one, 1)
}

// wantLogEnds asks that of a log with two opens, something and another open the
// two alone count, and with nothing else in front of it nothing does.
func wantLogEnds(t *testing.T, what string, seq uint64, at func(seq uint64) []byte) {
	t.Helper()
	s := impl.State{Epoch: 4}
	snap := snapFile(seq, s)
	wantLoad(t, what+", first", impl.Disk{Snap: snap, Log: safeFile(slices.Concat(at(seq+1), opRecord(seq+2, openOp)))}, s, seq)
	s.Next, s.Sessions = 2, []impl.Session{{Id: 1}, {Id: 2}}
	log := slices.Concat(opLog(seq+1, openOp, openOp), at(seq+3), opRecord(seq+4, openOp))
	wantLoad(t, what, impl.Disk{Snap: snap, Log: safeFile(log)}, s, seq+2)
}

func TestLogEndsAtAGap(t *testing.T) {
	for _, seq := range []uint64{0, 1, 9, 1 << 40} {
		wantLogEnds(t, "a gap of one", seq, func(seq uint64) []byte { return opRecord(seq+1, openOp) })
		wantLogEnds(t, "a gap of two records", seq, func(seq uint64) []byte { return opLog(seq+1, openOp, openOp) })
		wantLogEnds(t, "a great gap", seq, func(seq uint64) []byte { return opRecord(seq+1<<32, openOp) })
		wantLogEnds(t, "the greatest Seq", seq, func(uint64) []byte { return opRecord(math.MaxUint64, openOp) })
	}
	wantLogEnds(t, "back to the beginning", 9, func(uint64) []byte { return opRecord(1, openOp) })
}

func TestLogEndsAtWhatIsNoRequest(t *testing.T) {
	open := string(opBytes(openOp))
	bodies := map[string]string{
		"no body": "", "a kind alone": "\x01", "one byte less": open[:4], "one byte more": open + "\x00", "kind 0": "\x00" + open[1:],
		"kind 14": "\x0e" + open[1:], "an open with a session": "\x01\x01\x00\x00\x00", "a long varint": "\x03\x81\x00\x00\x00\x00",
		"keep": string(opBytes(ofSession(impl.OpKeep, 1))), "get": string(opBytes(onPath(impl.OpGet, "/a"))), "list": string(opBytes(onPath(impl.OpList, "/"))),
		"watch": string(opBytes(onNode(impl.OpWatch, 1, "/a"))), "poll": string(opBytes(ofSession(impl.OpPoll, 1))), "check": string(opBytes(checkOf(1, "/a", 0, 0))),
		"a value too long": string(opBytes(createOf(1, "/a", 0, string(someBytes(41))))), "a flag": string(opBytes(createOf(1, "/a", 2, ""))),
		"the longest": string(someBytes(impl.MaxBody)),
	}
	for name, body := range bodies {
		wantLogEnds(t, name, 6, func(seq uint64) []byte { return recordOf(seq, body) })
	}
}

func TestLogEndsAtARefusedRequest(t *testing.T) {
	refused := map[string]impl.Op{
		"no session": ofSession(impl.OpClose, 7), "session 0": ofSession(impl.OpClose, 0), "no session for a path": onNode(impl.OpDelete, 3, "/a"),
		"no path": onNode(impl.OpDelete, 1, "a"), "the root": createOf(1, "/", 0, ""), "no node": setOf(1, "/none", "v"), "no parent": createOf(1, "/a/b", 0, ""),
	}
	for name, op := range refused {
		wantLogEnds(t, name, 6, func(seq uint64) []byte { return opRecord(seq, op) })
	}
	for _, o := range ownFlaweds() {
		if !opRows[o.op.Kind-1].journaled {
			continue
		}
		log := slices.Concat(opRecord(3, o.op), opRecord(4, setOf(1, "/z_9", "more")))
		wantLoad(t, o.name, impl.Disk{Snap: snapFile(2, o.s), Log: safeFile(log)}, o.s, 2)
		log = slices.Concat(opRecord(3, setOf(1, "/z_9", "more")), opRecord(4, o.op), opRecord(5, setOf(1, "/z_9", "much more")))
		after := roomyOf(o.s)
		nodeIn(&after, "/z_9").Value = []byte("more")
		wantLoad(t, o.name+", second", impl.Disk{Snap: snapFile(2, o.s), Log: safeFile(log)}, after, 3)
	}
}

func TestLogEndsAtATornRecord(t *testing.T) {
	whole := opRecord(7, createOf(1, "/a", 0, "value"))
	for cut := range whole {
		wantLogEnds(t, fmt.Sprint("cut at ", cut), 6, func(seq uint64) []byte { return opRecord(seq, createOf(1, "/a", 0, "value"))[:cut] })
	}
	for bit := range 8 * len(whole) {
		wantLogEnds(t, fmt.Sprint("bit ", bit), 6, func(seq uint64) []byte { return turned(opRecord(seq, createOf(1, "/a", 0, "value")), bit) })
	}
	wantLogEnds(t, "a body too long", 6, func(seq uint64) []byte { return recordBytes(impl.MaxBody+1, seq, someBytes(impl.MaxBody+1)) })
}

func TestLoadAtTheLastNumber(t *testing.T) {
	s := impl.State{Epoch: 4}
	one := impl.State{Epoch: 4, Next: 1, Sessions: []impl.Session{{Id: 1}}}
	log := safeFile(opLog(impl.MaxCounter-1, openOp, openOp, openOp))
	wantLoad(t, "one before it", impl.Disk{Snap: snapFile(impl.MaxCounter-1, s), Log: log}, one, impl.MaxCounter)
	wantLoad(t, "at it", impl.Disk{Snap: snapFile(impl.MaxCounter, s), Log: log}, s, impl.MaxCounter)
	wantLoad(t, "a record behind it", impl.Disk{Snap: snapFile(impl.MaxCounter, s), Log: safeFile(opLog(impl.MaxCounter+1, openOp))}, s, impl.MaxCounter)
	two := impl.State{Epoch: 4, Next: 2, Sessions: []impl.Session{{Id: 1}, {Id: 2}}}
	wantLoad(t, "two before it", impl.Disk{Snap: snapFile(impl.MaxCounter-2, s), Log: log}, two, impl.MaxCounter)
	wantNoLoad(t, "a snap behind it", impl.Disk{Snap: snapFile(impl.MaxCounter+1, s), Log: log}, impl.CodeCorrupt)
	for _, seq := range []uint64{1 << 63, math.MaxUint64} {
		wantNoLoad(t, "a snap far behind it", impl.Disk{Snap: snapFile(seq, s)}, impl.CodeCorrupt)
	}
}

// The log doesn't help a snap that is not what it must be.
func TestLoadOfACorruptSnap(t *testing.T) {
	log := safeFile(opLog(1, openOp, openOp))
	good := snapshotOf(1, stateBytes(ordinaryState()))
	snaps := map[string][]byte{
		"a byte": {0}, "a mark alone": []byte("LHS1"), "one byte more": append(slices.Clone(good), 0), "another mark": snapshotBytes("LHS2", 1, 0, nil),
		"another length": snapshotBytes("LHS1", 1, 6, stateBytes(impl.State{})), "no body": snapshotOf(1, nil), "a body that is no state": snapshotOf(1, []byte("none")),
		"a state and a byte": snapshotOf(1, append(stateBytes(ordinaryState()), 0)), "less than a state": snapshotOf(1, stateBytes(ordinaryState())[:40]),
	}
	for cut := 1; cut < len(good); cut++ {
		snaps[fmt.Sprint("cut at ", cut)] = good[:cut]
	}
	for bit := range 8 * len(good) {
		snaps[fmt.Sprint("bit ", bit)] = turned(good, bit)
	}
	for name, s := range wrongStates() {
		if _, ok := readState(stateBytes(s)); !ok {
			snaps[name] = snapshotOf(1, stateBytes(s))
		}
	}
	for name, b := range snaps {
		wantNoLoad(t, name, impl.Disk{Log: log, Snap: safeFile(b)}, impl.CodeCorrupt)
		want(t, name+", start", start(impl.Disk{Log: log, Snap: safeFile(b)}, 3, 5), served{Code: impl.CodeCorrupt})
	}
}

func TestLoadOfADiskThatIsNotValid(t *testing.T) {
	for _, f := range invalidFiles() {
		for _, file := range everyFile {
			d := ordinaryServer().Disk
			*fileAt(&d, file) = f
			wantNoLoad(t, fmt.Sprint("file ", file), d, impl.CodeBad)
			corrupt := d
			if file != impl.FileSnap {
				corrupt.Snap = newFile("none", 4)
			}
			wantNoLoad(t, fmt.Sprint("a corrupt snap and file ", file), corrupt, impl.CodeBad)
		}
	}
}

// Bytes that are not synced count, and those of Temp don't.
func TestLoadCountsAllBytes(t *testing.T) {
	v := ordinaryServer()
	whole := safeFile(snapshotOf(99, stateBytes(flatState(3, 3))))
	for _, temp := range []impl.File{{}, newFile("rubbish", 3), whole, unsafeFile(whole.Data), v.Disk.Log} {
		for _, log := range []int{0, 1, 20, len(v.Disk.Log.Data)} {
			for _, snap := range []int{0, 1, len(v.Disk.Snap.Data) - 1, len(v.Disk.Snap.Data)} {
				d := impl.Disk{Log: v.Disk.Log, Snap: v.Disk.Snap, Temp: temp}
				d.Log.Synced, d.Snap.Synced = log, snap
				wantLoad(t, fmt.Sprintf("%d and %d synced", log, snap), d, v.State, v.Seq)
			}
		}
	}
	wantLoad(t, "Temp alone", impl.Disk{Temp: whole}, impl.State{}, 0)
}

// A log may be far longer here than that of a server.
func TestLoadOfTheLongestLog(t *testing.T) {
	s := roomyOf(durableOf(crowded()))
	dropSession(&s, 1)
	dropSession(&s, 130)
	for i := range s.Nodes {
		s.Nodes[i].Mode, s.Nodes[i].Holders, s.Nodes[i].Epoch, s.Nodes[i].Gen = free, nil, 0, 0
	}
	var log []byte
	seq, next := uint64(5), s.Next
	for {
		more := slices.Concat(opRecord(seq+1, openOp), opRecord(seq+2, ofSession(impl.OpClose, next+1)))
		if len(log)+len(more) > impl.MaxFile {
			break
		}
		log = append(log, more...)
		seq, next = seq+2, next+1
	}
	d := impl.Disk{Snap: snapFile(5, s), Log: safeFile(log)}
	s.Next = next
	wantLoad(t, "opens and closes", d, s, seq)
	zeros := impl.Disk{Snap: snapFile(5, s), Log: zeroFile(impl.MaxFile, 0), Temp: zeroFile(impl.MaxFile, 9)}
	wantLoad(t, "zeros", zeros, s, 5)
}

// All that 6.1 says, over disks that were changed by chance.
func TestLoadAsOfTheSecond(t *testing.T) {
	r := rand.New(rand.NewSource(21))
	servers := someServers()
	codes, ended := map[int]int{}, 0
	for i := range 1500 {
		v := pick(r, servers...)
		d := roomyOf(v.Disk)
		switch r.Intn(5) {
		case 0:
			changeByChance(r, &d.Snap.Data)
		case 1, 2:
			changeByChance(r, &d.Log.Data)
		case 3:
			d.Log.Data = append(d.Log.Data, opRecord(v.Seq+uint64(r.Intn(3)), randomOp(r, v.State))...)
		}
		d.Log.Synced, d.Snap.Synced = r.Intn(len(d.Log.Data)+2), len(d.Snap.Data)
		got := load(d)
		want(t, fmt.Sprint("disk ", i), got, secondLoad(d))
		codes[got.Code]++
		if got.Code == impl.CodeOK && got.Seq < v.Seq {
			ended++
		}
		if t.Failed() {
			return
		}
	}
	if codes[impl.CodeOK] < 300 || codes[impl.CodeCorrupt] < 50 || codes[impl.CodeBad] < 50 || ended < 50 {
		t.Errorf("the test itself is too narrow: %v, %d ended", codes, ended)
	}
}
