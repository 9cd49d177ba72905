package tests

import (
	"bytes"
	"encoding/binary"
	"fmt"
	"math"
	"slices"
	"testing"

	"loop.example/s02132/impl"
)

// journaledOps has requests of each journaled kind, bare, ordinary and great.
func journaledOps() []impl.Op {
	var out []impl.Op
	for _, r := range opRows {
		if !r.journaled {
			continue
		}
		great := r.ordinary()
		if r.has("S") {
			great.Session = math.MaxUint64
		}
		if r.has("P") {
			great.Path = someBytes(300)
		}
		if r.has("V") {
			great.Value = someBytes(impl.MaxValue)
		}
		out = append(out, r.bare(), r.ordinary(), great)
	}
	return out
}

// someStates has valid states that are small enough to try much on each.
func someStates() []impl.State {
	return []impl.State{ordinaryState(), {}, flatState(1, 0), flatState(0, 1), flatState(3, 3), treeOf("/a", "/a-b", "/a/b")}
}

// longVarint writes the number in so many bytes, more than it needs.
func longVarint(n uint64, size int) []byte {
	b := binary.AppendUvarint(nil, n)
	for len(b) < size {
		b[len(b)-1] |= 0x80
		b = append(b, 0)
	}
	return b
}

// wrappedVarint writes the number with 2^64 added so many times, in ten bytes.
func wrappedVarint(n uint64, times byte) []byte {
	b := longVarint(n, 10)
	b[9] += 2 * times
	return b
}

// wrongVarints has ways to write the number that are none.
func wrongVarints(n uint64) map[string][]byte {
	need := len(binary.AppendUvarint(nil, n))
	wrong := map[string][]byte{
		"one byte longer":        longVarint(n, need+1),
		"in eleven bytes":        longVarint(n, 11),
		"in twelve bytes":        longVarint(n, 12),
		"more than 64 bits":      wrappedVarint(n, 1),
		"much more than 64 bits": wrappedVarint(n, 63),
		"without an end":         bytes.Repeat([]byte{0x80}, 40),
		"ones without an end":    bytes.Repeat([]byte{0xff}, 40),
		"the greatest and more":  append(bytes.Repeat([]byte{0xff}, 10), 1),
	}
	if need < 10 {
		wrong["in ten bytes"] = longVarint(n, 10)
	}
	return wrong
}

// withPart is the bytes with another piece in one place.
func withPart(parts []part, at int, b []byte) []byte {
	out := slices.Clone(parts)
	out[at].b = b
	return bytesOfParts(out)
}

func TestWrongVarintsInOps(t *testing.T) {
	for _, op := range journaledOps() {
		parts := opParts(op)
		for i, p := range parts {
			if !p.varint {
				continue
			}
			n, _ := binary.Uvarint(p.b)
			for way, b := range wrongVarints(n) {
				what := fmt.Sprintf("kind %d, %s, %s", op.Kind, p.name, way)
				wantNoOp(t, what, withPart(parts, i, b))
				wantNoOp(t, what+", at the end", append(bytesOfParts(parts[:i]), b...))
			}
		}
	}
}

func TestWrongVarintsInStates(t *testing.T) {
	for _, s := range someStates() {
		parts := stateParts(s)
		for i, p := range parts {
			if !p.varint {
				continue
			}
			n, _ := binary.Uvarint(p.b)
			for way, b := range wrongVarints(n) {
				what := p.name + ", " + way
				wantNoState(t, what, withPart(parts, i, b))
				wantNoState(t, what+", at the end", append(bytesOfParts(parts[:i]), b...))
			}
		}
	}
}

// otherNumbers is what a number may be replaced by to tell of too much or too
// little.
func otherNumbers(n uint64) []uint64 {
	out := []uint64{n - 1, n + 1, n + 2, n + 256, n + 1<<32, n + 1<<63}
	return append(out, greatNumbers()...)
}

func TestNumbersThatTellOfMoreThanThereIs(t *testing.T) {
	for _, op := range journaledOps() {
		parts := opParts(op)
		for _, i := range []int{2, 5} {
			n := uint64(len(parts[i+1].b))
			for _, other := range otherNumbers(n) {
				if other != n {
					wantNoOp(t, fmt.Sprintf("kind %d, %s %d", op.Kind, parts[i].name, other), withPart(parts, i, binary.AppendUvarint(nil, other)))
				}
			}
		}
	}
	for _, s := range someStates() {
		parts := stateParts(s)
		for i, p := range parts {
			n, _ := binary.Uvarint(p.b)
			for _, other := range otherNumbers(n) {
				if p.varint {
					wantRead(t, fmt.Sprintf("%s %d", p.name, other), withPart(parts, i, binary.AppendUvarint(nil, other)))
				}
			}
		}
	}
}

func TestSizesOverNothing(t *testing.T) {
	for _, n := range []uint64{1, 2, 50, 51, 200, 201, 1 << 31, 1 << 62, 1 << 63, math.MaxUint64} {
		size := binary.AppendUvarint(nil, n)
		wantNoOp(t, "a path over nothing", slices.Concat([]byte{5, 1}, size))
		wantNoOp(t, "a value over nothing", slices.Concat([]byte{7, 1, 0, 0}, size))
		wantNoState(t, "sessions over nothing", slices.Concat([]byte{0, 0, 1}, size))
		wantNoState(t, "sessions over zeros", slices.Concat([]byte{0, 0, 1}, size, make([]byte, 300)))
		wantNoState(t, "nodes over nothing", slices.Concat([]byte{0, 0, 1, 0}, size))
		wantNoState(t, "nodes over zeros", slices.Concat([]byte{0, 0, 1, 0}, size, make([]byte, 3000)))
		wantNoState(t, "holders over nothing", slices.Concat([]byte{0, 0, 1, 1, 1, 1, 2, '/', 'a', 0, 0, 2}, size))
		wantNoState(t, "holders over zeros", slices.Concat([]byte{0, 0, 1, 1, 1, 1, 2, '/', 'a', 0, 0, 2}, size, make([]byte, 300)))
	}
}

func TestBeginningsAndBytesBehind(t *testing.T) {
	for _, op := range journaledOps() {
		b := opBytes(op)
		for n := range b {
			wantNoOp(t, fmt.Sprintf("kind %d, the first %d bytes", op.Kind, n), b[:n:n])
			wantNoOp(t, fmt.Sprintf("kind %d, but the first %d bytes", op.Kind, n+1), b[n+1:])
		}
		for c := range 256 {
			wantNoOp(t, fmt.Sprintf("kind %d, %d behind", op.Kind, c), append(bytes.Clone(b), byte(c)))
		}
		wantNoOp(t, "twice", slices.Concat(b, b))
	}
	for _, s := range someStates() {
		b := stateBytes(s)
		for n := range b {
			wantNoState(t, fmt.Sprintf("the first %d bytes", n), b[:n:n])
		}
		for c := range 256 {
			wantNoState(t, fmt.Sprintf("%d behind", c), append(bytes.Clone(b), byte(c)))
		}
		wantNoState(t, "twice", slices.Concat(b, b))
	}
	wantNoOp(t, "nil", nil)
	wantNoOp(t, "no bytes", []byte{})
	wantNoState(t, "nil", nil)
	wantNoState(t, "no bytes", []byte{})
}

// Every byte of the bytes is turned into every other: what is read then is what
// the second reader reads.
func TestTurnedBytes(t *testing.T) {
	for _, s := range someStates() {
		b := stateBytes(s)
		for i := range b {
			for c := range 256 {
				other := bytes.Clone(b)
				other[i] = byte(c)
				wantRead(t, fmt.Sprintf("byte %d as %d", i, c), other)
			}
		}
	}
}

func TestBytesLeftOutAndPutIn(t *testing.T) {
	b := stateBytes(ordinaryState())
	for i := range b {
		wantRead(t, fmt.Sprintf("without byte %d", i), slices.Delete(bytes.Clone(b), i, i+1))
		wantRead(t, fmt.Sprintf("byte %d twice", i), slices.Insert(bytes.Clone(b), i, b[i]))
		wantRead(t, fmt.Sprintf("from byte %d on", i), b[i:])
		for _, c := range []byte{0, 1, 2, 0x7f, 0x80, 0xff} {
			wantRead(t, fmt.Sprintf("%d ahead of byte %d", c, i), slices.Insert(bytes.Clone(b), i, c))
		}
	}
}

func TestPlainBytesAreNothing(t *testing.T) {
	for n := range 300 {
		wantRead(t, fmt.Sprint(n, " zeros"), make([]byte, n))
		wantRead(t, fmt.Sprint(n, " ones"), bytes.Repeat([]byte{1}, n))
		wantRead(t, fmt.Sprint(n, " times 255"), bytes.Repeat([]byte{255}, n))
		wantRead(t, fmt.Sprint(n, " times 128"), bytes.Repeat([]byte{128}, n))
		wantNoOp(t, fmt.Sprint(n, " zeros"), make([]byte, n))
		wantNoOp(t, fmt.Sprint(n, " times 255"), bytes.Repeat([]byte{255}, n))
	}
	big := make([]byte, impl.MaxFile)
	wantNoState(t, "a file of zeros", big)
	wantNoOp(t, "a file of zeros", big)
}
