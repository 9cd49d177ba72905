package tests

import (
	"bytes"
	"fmt"
	"math"
	"math/rand"
	"slices"
	"testing"

	"loop.example/s02132/impl"
)

func pick[E any](r *rand.Rand, list ...E) E {
	return list[r.Intn(len(list))]
}

// someIds takes some of the sessions, in their order.
func someIds(r *rand.Rand, s impl.State) []uint64 {
	var out []uint64
	for _, c := range s.Sessions {
		if r.Intn(3) == 0 {
			out = append(out, c.Id)
		}
	}
	return out
}

func randomQueue(r *rand.Rand) []impl.Event {
	n := r.Intn(impl.MaxQueue + 1)
	if n == impl.MaxQueue {
		return fullQueue(n-1, impl.Event{Kind: impl.EvOverflow})
	}
	var out []impl.Event
	for range n {
		out = append(out, impl.Event{Kind: 1 + r.Intn(3), Path: []byte(pick(r, "/a", "/a/b", "/gone"))})
	}
	return out
}

// randomPaths has paths that all have their parents, ascending.
func randomPaths(r *rand.Rand, n int) []string {
	paths := []string{}
	for range n {
		parent := ""
		if len(paths) > 0 && r.Intn(3) > 0 {
			parent = pick(r, paths...)
		}
		p := parent + "/" + pick(r, "a", "b", "a-", "a-b", "a0", "_", "-", "9", "nnnnnnnnnnnnnnnn")
		if pathForm.MatchString(p) && !slices.Contains(paths, p) {
			paths = append(paths, p)
		}
	}
	slices.Sort(paths)
	return paths
}

func randomNode(r *rand.Rand, s impl.State, path string, leaf bool) impl.Node {
	n := impl.Node{Path: []byte(path), Value: someBytes(r.Intn(impl.MaxValue + 1)), Watchers: someIds(r, s)}
	if len(s.Sessions) == 0 {
		return n
	}
	if leaf && r.Intn(2) == 0 {
		n.Owner = pick(r, s.Sessions...).Id
	}
	switch r.Intn(3) {
	case 1:
		n.Mode, n.Holders = impl.ModeExclusive, idsOf(pick(r, s.Sessions...).Id)
		n.Epoch, n.Gen = pick(r, 0, s.Epoch, s.Epoch/2), pick(r, 1, s.Gen, (s.Gen+1)/2)
	case 2:
		if ids := someIds(r, s); len(ids) > 0 {
			n.Mode, n.Holders = impl.ModeShared, ids
		}
	}
	return n
}

// randomState is always valid.
func randomState(r *rand.Rand) impl.State {
	counter := func() uint64 {
		return pick(r, 1, 127, 128, uint64(1+r.Intn(1000)), 1+uint64(r.Int63n(impl.MaxCounter)), impl.MaxCounter)
	}
	s := impl.State{Epoch: counter(), Gen: counter(), Now: pick(r, 0, r.Intn(1000), impl.MaxNow)}
	for range pick(r, 0, 1, 5, r.Intn(impl.MaxSessions+1)) {
		s.Next += 1 + uint64(r.Intn(200))
		s.Sessions = append(s.Sessions, impl.Session{Id: s.Next, Deadline: r.Intn(impl.MaxNow + 16), Queue: randomQueue(r)})
	}
	s.Next += uint64(r.Intn(2))
	paths := randomPaths(r, pick(r, 0, 1, 8, r.Intn(60)))
	for _, p := range paths {
		leaf := !slices.ContainsFunc(paths, func(q string) bool { return len(q) > len(p) && q[:len(p)+1] == p+"/" })
		s.Nodes = append(s.Nodes, randomNode(r, s, p, leaf))
	}
	return s
}

// Promise 4: a request of a journaled kind comes back out of its bytes.
func TestEveryOpComesBack(t *testing.T) {
	r := rand.New(rand.NewSource(4))
	for range 3000 {
		row := pick(r, opRows...)
		op := row.bare()
		op.Flag = pick(r, row.flags...)
		if row.has("S") {
			op.Session = r.Uint64() >> r.Intn(64)
		}
		if row.has("P") {
			op.Path = someBytes(r.Intn(300))
		}
		if row.has("V") {
			op.Value = someBytes(r.Intn(impl.MaxValue + 1))
		}
		if !row.journaled {
			wantNotWritten(t, told(op), op)
			continue
		}
		got, code := impl.DecodeOp(impl.EncodeOp(op))
		if code != impl.CodeOK || told(got) != told(op) {
			t.Fatalf("%s: code %d, %s", told(op), code, told(got))
		}
	}
}

// Promise 4: of a valid state its durable part comes back out of its bytes.
func TestEveryStateComesBack(t *testing.T) {
	r := rand.New(rand.NewSource(5))
	for i := range 1000 {
		s := randomState(r)
		if !soundState(s) {
			t.Fatalf("state %d: the test itself is wrong: %s", i, told(s))
		}
		wantValid(t, fmt.Sprint("state ", i), s, true)
	}
}

// Promise 4: no other bytes are taken. Whatever is read of bytes that were
// changed by chance is written as these bytes again.
func TestDecodersTakeNoOtherBytes(t *testing.T) {
	r := rand.New(rand.NewSource(6))
	for i := range 2000 {
		s := randomState(r)
		b := stateBytes(s)
		for range 5 {
			changeByChance(r, &b)
			wantRead(t, fmt.Sprint("state ", i), b)
		}
		op := pick(r, journaledOps()...)
		b = opBytes(op)
		for range 20 {
			changeByChance(r, &b)
			got, code := impl.DecodeOp(b)
			if code == impl.CodeOK {
				wantBytes(t, "read and written again", opBytes(got), b)
				wantBytes(t, "and encoded", impl.EncodeOp(got), b)
			} else {
				wantNoOp(t, "changed by chance", b)
			}
		}
	}
}

func changeByChance(r *rand.Rand, b *[]byte) {
	at := 0
	if len(*b) > 0 {
		at = r.Intn(len(*b))
	}
	c := pick(r, 0, 1, 2, '/', 'a', 0x7f, 0x80, 0xff, byte(r.Intn(256)))
	out := bytes.Clone(*b)
	switch r.Intn(4) {
	case 0:
		out = slices.Insert(out, at, c)
	case 1:
		if len(out) > 0 {
			out = slices.Delete(out, at, at+1)
		}
	default:
		if len(out) > 0 {
			out[at] = c
		}
	}
	*b = out
}

// spoilList repeats, swaps, drops or adds one of the list.
func spoilList[E any](r *rand.Rand, list []E, more ...E) []E {
	out := slices.Clone(list)
	if len(out) == 0 {
		return append(out, more...)
	}
	i, j := r.Intn(len(out)), r.Intn(len(out))
	switch r.Intn(4) {
	case 0:
		return slices.Insert(out, i, out[j])
	case 1:
		out[i], out[j] = out[j], out[i]
	case 2:
		return slices.Delete(out, i, i+1)
	default:
		return slices.Insert(out, i, more...)
	}
	return out
}

func spoilNode(r *rand.Rand, n *impl.Node) {
	number := pick[uint64](r, 0, 1, 2, 3, 100, impl.MaxCounter, math.MaxUint64)
	switch r.Intn(8) {
	case 0:
		n.Path = []byte(pick(r, "/a", "/b", "/a-b", "/a/b", "/a/b/a", "/", "", "/A"))
	case 1:
		n.Value = someBytes(pick(r, 0, impl.MaxValue, impl.MaxValue+1))
	case 2:
		n.Owner = number
	case 3:
		n.Mode = pick(r, -1, 0, 1, 2, 3)
	case 4:
		n.Holders = spoilList(r, n.Holders, number)
	case 5:
		n.Epoch = number
	case 6:
		n.Gen = number
	case 7:
		n.Watchers = spoilList(r, n.Watchers, number)
	}
}

func spoilSession(r *rand.Rand, c *impl.Session) {
	switch r.Intn(3) {
	case 0:
		c.Id = pick(r, 0, 1, c.Id-1, c.Id+1, math.MaxUint64)
	case 1:
		c.Deadline = pick(r, -1, 0, impl.MaxNow, impl.MaxNow+15, impl.MaxNow+16)
	case 2:
		c.Queue = spoilList(r, c.Queue, impl.Event{Kind: r.Intn(6), Path: []byte(pick(r, "", "/a", "/"))})
	}
}

func spoil(r *rand.Rand, s *impl.State) {
	number := pick[uint64](r, 0, 1, 100, impl.MaxCounter, impl.MaxCounter+1)
	switch r.Intn(10) {
	case 0:
		s.Epoch = number
	case 1:
		s.Gen = number
	case 2:
		s.Next = number
	case 3:
		s.Now = pick(r, -1, 0, impl.MaxNow, impl.MaxNow+1)
	case 4:
		s.Sessions = spoilList(r, s.Sessions, impl.Session{Id: number})
	case 5:
		s.Nodes = spoilList(r, s.Nodes, impl.Node{Path: []byte(pick(r, "/", "/a", "/b/a"))})
	case 6, 7:
		if len(s.Sessions) > 0 {
			spoilSession(r, &s.Sessions[r.Intn(len(s.Sessions))])
		}
	default:
		if len(s.Nodes) > 0 {
			spoilNode(r, &s.Nodes[r.Intn(len(s.Nodes))])
		}
	}
}

// A state that was changed by chance is judged as the document says it.
func TestSpoiledStates(t *testing.T) {
	r := rand.New(rand.NewSource(7))
	judged := map[bool]int{}
	for i := range 4000 {
		s := randomState(r)
		spoil(r, &s)
		valid := soundState(s)
		judged[valid]++
		wantValid(t, fmt.Sprint("state ", i), s, valid)
	}
	if judged[true] < 500 || judged[false] < 500 {
		t.Errorf("the test itself is too one-sided: %v", judged)
	}
}
