package tests

import (
	"bytes"
	"encoding/binary"
	"fmt"
	"regexp"
	"slices"
	"testing"

	"loop.example/s02132/impl"
)

// told is the same for two values exactly if they are equal; an empty list and
// nil are.
func told(v any) string {
	return fmt.Sprintf("%+v", v)
}

func idsOf(list ...uint64) []uint64 {
	return list
}

func textsOf(list ...string) [][]byte {
	var out [][]byte
	for _, s := range list {
		out = append(out, []byte(s))
	}
	return out
}

// queueOf has an EvChanged for each path.
func queueOf(paths ...string) []impl.Event {
	var out []impl.Event
	for _, p := range paths {
		out = append(out, impl.Event{Kind: impl.EvChanged, Path: []byte(p)})
	}
	return out
}

// fullQueue has n events of a node, and last behind them.
func fullQueue(n int, last impl.Event) []impl.Event {
	return append(queueOf(slices.Repeat([]string{"/q"}, n)...), last)
}

// ordinaryState has something of everything, in places where a mix-up shows.
func ordinaryState() impl.State {
	return impl.State{
		Epoch: 3, Gen: 500, Next: 300, Now: 77,
		Sessions: []impl.Session{
			{Id: 1, Deadline: 87, Queue: []impl.Event{{Kind: impl.EvFreed, Path: []byte("/a")}, {Kind: impl.EvDeleted, Path: []byte("/gone/x")}}},
			{Id: 130, Deadline: 92, Queue: fullQueue(impl.MaxQueue-1, impl.Event{Kind: impl.EvOverflow})},
			{Id: 300},
		},
		Nodes: []impl.Node{
			{Path: []byte("/a"), Value: []byte("hello"), Watchers: idsOf(1, 130)},
			{Path: []byte("/a-b"), Mode: impl.ModeExclusive, Holders: idsOf(130), Epoch: 2, Gen: 400},
			{Path: []byte("/a/b"), Value: []byte{0, 128, 255}, Mode: impl.ModeShared, Holders: idsOf(1, 130, 300), Watchers: idsOf(300)},
			{Path: []byte("/a/b/own"), Owner: 300, Mode: impl.ModeExclusive, Holders: idsOf(1), Epoch: 3, Gen: 500, Watchers: idsOf(1)},
			{Path: []byte("/z_9"), Value: someBytes(impl.MaxValue)},
		},
	}
}

func durableOf(s impl.State) impl.State {
	s.Now = 0
	s.Sessions = slices.Clone(s.Sessions)
	for i := range s.Sessions {
		s.Sessions[i].Deadline, s.Sessions[i].Queue = 0, nil
	}
	s.Nodes = slices.Clone(s.Nodes)
	for i := range s.Nodes {
		s.Nodes[i].Watchers = nil
	}
	return s
}

// part is a piece of encoded bytes; varint tells that it is a number which can
// be written in other, wrong ways.
type part struct {
	name   string
	b      []byte
	varint bool
}

func numberPart(name string, n uint64) part {
	return part{name, binary.AppendUvarint(nil, n), true}
}

func textParts(name string, b []byte) []part {
	return []part{numberPart(name+" size", uint64(len(b))), {name, b, false}}
}

func bytePart(name string, n int) part {
	return part{name, []byte{byte(n)}, false}
}

func bytesOfParts(parts []part) []byte {
	var out []byte
	for _, p := range parts {
		out = append(out, p.b...)
	}
	return out
}

// opParts writes any request, well formed or not, as the document says it.
func opParts(op impl.Op) []part {
	parts := []part{bytePart("Kind", op.Kind), numberPart("Session", op.Session)}
	parts = append(parts, textParts("Path", op.Path)...)
	parts = append(parts, bytePart("Flag", op.Flag))
	return append(parts, textParts("Value", op.Value)...)
}

func opBytes(op impl.Op) []byte {
	return bytesOfParts(opParts(op))
}

func nodeParts(n impl.Node) []part {
	parts := append(textParts("Path", n.Path), textParts("Value", n.Value)...)
	parts = append(parts, numberPart("Owner", n.Owner), bytePart("Mode", n.Mode), numberPart("number of holders", uint64(len(n.Holders))))
	for _, id := range n.Holders {
		parts = append(parts, numberPart("holder", id))
	}
	return append(parts, numberPart("node's Epoch", n.Epoch), numberPart("node's Gen", n.Gen))
}

// stateParts writes any state, valid or not, as the document says it.
func stateParts(s impl.State) []part {
	parts := []part{numberPart("Epoch", s.Epoch), numberPart("Gen", s.Gen), numberPart("Next", s.Next)}
	parts = append(parts, numberPart("number of sessions", uint64(len(s.Sessions))))
	for _, c := range s.Sessions {
		parts = append(parts, numberPart("Id", c.Id))
	}
	parts = append(parts, numberPart("number of nodes", uint64(len(s.Nodes))))
	for _, n := range s.Nodes {
		parts = append(parts, nodeParts(n)...)
	}
	return parts
}

func stateBytes(s impl.State) []byte {
	return bytesOfParts(stateParts(s))
}

var pathForm = regexp.MustCompile(`\A(/[a-z0-9_-]{1,16}){1,8}\z`)

var parentForm = regexp.MustCompile(`\A(.*)/[^/]*\z`)

func knows(s impl.State, id uint64) bool {
	return slices.ContainsFunc(s.Sessions, func(c impl.Session) bool { return c.Id == id })
}

func hasParent(s impl.State, path []byte) bool {
	parent := parentForm.FindSubmatch(path)[1]
	return len(parent) == 0 || slices.ContainsFunc(s.Nodes, func(n impl.Node) bool { return bytes.Equal(n.Path, parent) && n.Owner == 0 })
}

// rising asks for ascending sessions of the state.
func rising(s impl.State, ids []uint64) bool {
	for i, id := range ids {
		if !knows(s, id) || i > 0 && ids[i-1] >= id {
			return false
		}
	}
	return true
}

func soundSession(s impl.State, c impl.Session) bool {
	if c.Id == 0 || c.Id > s.Next || c.Deadline < 0 || c.Deadline > 1000000+10+5 || len(c.Queue) > 8 {
		return false
	}
	for i, e := range c.Queue {
		last := i == 7
		switch e.Kind {
		case 1, 2, 3:
			if last || !pathForm.Match(e.Path) {
				return false
			}
		case 4:
			if !last || len(e.Path) != 0 {
				return false
			}
		default:
			return false
		}
	}
	return true
}

func soundNode(s impl.State, n impl.Node) bool {
	if !pathForm.Match(n.Path) || !hasParent(s, n.Path) || len(n.Value) > 40 || n.Owner != 0 && !knows(s, n.Owner) {
		return false
	}
	if !rising(s, n.Holders) || !rising(s, n.Watchers) {
		return false
	}
	if n.Mode == 1 {
		return len(n.Holders) == 1 && n.Gen > 0 && n.Gen <= s.Gen && n.Epoch <= s.Epoch
	}
	return n.Epoch == 0 && n.Gen == 0 && (n.Mode == 0 && len(n.Holders) == 0 || n.Mode == 2 && len(n.Holders) > 0)
}

// soundState is the document's valid state, over the lists as they are.
func soundState(s impl.State) bool {
	const greatest = 1 << 62
	if s.Epoch > greatest || s.Gen > greatest || s.Next > greatest || s.Now < 0 || s.Now > 1000000 || len(s.Sessions) > 50 || len(s.Nodes) > 200 {
		return false
	}
	for i, c := range s.Sessions {
		if !soundSession(s, c) || i > 0 && s.Sessions[i-1].Id >= c.Id {
			return false
		}
	}
	for i, n := range s.Nodes {
		if !soundNode(s, n) || i > 0 && string(s.Nodes[i-1].Path) >= string(n.Path) {
			return false
		}
	}
	return true
}

// strictReader reads as the document writes; bad says that something was not so.
type strictReader struct {
	rest []byte
	bad  bool
}

func (r *strictReader) take(n uint64) []byte {
	if r.bad || n > uint64(len(r.rest)) {
		r.bad = true
		return nil
	}
	b := r.rest[:n:n]
	r.rest = r.rest[n:]
	return b
}

func (r *strictReader) varint() uint64 {
	n, size := binary.Uvarint(r.rest)
	if size < 1 || size != len(binary.AppendUvarint(nil, n)) {
		r.bad = true
		return 0
	}
	r.take(uint64(size))
	return n
}

func (r *strictReader) text() []byte {
	return r.take(r.varint())
}

func (r *strictReader) mode() int {
	if b := r.take(1); !r.bad {
		return int(b[0])
	}
	return 0
}

// readState is a second reader of states: the state, and whether it is one.
func readState(b []byte) (impl.State, bool) {
	r := &strictReader{rest: b}
	var s impl.State
	s.Epoch, s.Gen, s.Next = r.varint(), r.varint(), r.varint()
	for i := r.varint(); i > 0 && !r.bad; i-- {
		s.Sessions = append(s.Sessions, impl.Session{Id: r.varint()})
	}
	for i := r.varint(); i > 0 && !r.bad; i-- {
		var n impl.Node
		n.Path, n.Value, n.Owner, n.Mode = r.text(), r.text(), r.varint(), r.mode()
		for j := r.varint(); j > 0 && !r.bad; j-- {
			n.Holders = append(n.Holders, r.varint())
		}
		n.Epoch, n.Gen = r.varint(), r.varint()
		s.Nodes = append(s.Nodes, n)
	}
	if r.bad || len(r.rest) > 0 || !soundState(s) {
		return impl.State{}, false
	}
	return s, true
}

func wantOp(t *testing.T, what string, b []byte, want impl.Op) {
	t.Helper()
	got, code := impl.DecodeOp(b)
	if code != impl.CodeOK || told(got) != told(want) {
		t.Errorf("%s: code %d, %s, want %s", what, code, told(got), told(want))
	}
}

func wantNoOp(t *testing.T, what string, b []byte) {
	t.Helper()
	got, code := impl.DecodeOp(b)
	if code != impl.CodeCorrupt || told(got) != told(impl.Op{}) {
		t.Errorf("%s: code %d, %s, want CodeCorrupt", what, code, told(got))
	}
}

func wantState(t *testing.T, what string, b []byte, want impl.State) {
	t.Helper()
	got, code := impl.DecodeState(b)
	if code != impl.CodeOK || told(got) != told(want) {
		t.Errorf("%s: code %d, %s, want %s", what, code, told(got), told(want))
	}
}

func wantNoState(t *testing.T, what string, b []byte) {
	t.Helper()
	got, code := impl.DecodeState(b)
	if code != impl.CodeCorrupt || told(got) != told(impl.State{}) {
		t.Errorf("%s: code %d, %s, want CodeCorrupt", what, code, told(got))
	}
}

// wantRead asks what the second reader says of the same bytes.
func wantRead(t *testing.T, what string, b []byte) {
	t.Helper()
	if want, ok := readState(b); ok {
		wantState(t, what, b, want)
	} else {
		wantNoState(t, what, b)
	}
}

// wantValid asks for all that the chapter says of a valid state and of another.
func wantValid(t *testing.T, what string, s impl.State, valid bool) {
	t.Helper()
	if got := impl.ValidState(s); got != valid {
		t.Errorf("%s: ValidState %v, want %v", what, got, valid)
	}
	if !valid {
		wantBytes(t, what+", encoded", impl.EncodeState(s), nil)
		return
	}
	wantBytes(t, what+", encoded", impl.EncodeState(s), stateBytes(s))
	wantState(t, what+", read back", impl.EncodeState(s), durableOf(s))
}
