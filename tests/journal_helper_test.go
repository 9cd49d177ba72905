package tests

import (
	"bytes"
	"encoding/binary"
	"hash/fnv"
	"math"
	"slices"
	"testing"

	"loop.example/s02132/impl"
)

// frame is what a record has beside its Body, snapFrame what a snapshot has.
const (
	frame     = 14
	snapFrame = 20
)

// greatNumbers has the smallest, the greatest, and for each of its bytes the
// numbers in which that byte alone is set.
func greatNumbers() []uint64 {
	out := []uint64{0, 1, math.MaxInt64, math.MaxInt64 + 1, math.MaxUint64 - 1, math.MaxUint64}
	for i := range 8 {
		out = append(out, 1<<(8*i), 0x80<<(8*i), 0xff<<(8*i))
	}
	return out
}

// sumBehind puts the library's FNV-1a behind the bytes: it is the document's
// checksum, but not the program's.
func sumBehind(b []byte) []byte {
	h := fnv.New32a()
	h.Write(b)
	return binary.LittleEndian.AppendUint32(bytes.Clone(b), h.Sum32())
}

// recordBytes is a record with whatever length its field is to tell.
func recordBytes(length uint16, seq uint64, body []byte) []byte {
	b := binary.LittleEndian.AppendUint16(nil, length)
	b = binary.LittleEndian.AppendUint64(b, seq)
	return sumBehind(append(b, body...))
}

func recordOf(seq uint64, body string) []byte {
	return recordBytes(uint16(len(body)), seq, []byte(body))
}

func snapshotBytes(mark string, seq uint64, length uint32, body []byte) []byte {
	b := binary.LittleEndian.AppendUint64([]byte(mark), seq)
	b = binary.LittleEndian.AppendUint32(b, length)
	return sumBehind(append(b, body...))
}

func snapshotOf(seq uint64, body []byte) []byte {
	return snapshotBytes("LHS1", seq, uint32(len(body)), body)
}

// someBytes has every value of a byte, the same for each call.
func someBytes(n int) []byte {
	out := make([]byte, n)
	for i := range out {
		out[i] = byte(i*7 + i/256)
	}
	return out
}

// recordsFrom numbers the bodies from the first Seq on.
func recordsFrom(seq uint64, bodies ...string) []impl.Record {
	var out []impl.Record
	for i, body := range bodies {
		out = append(out, impl.Record{Seq: seq + uint64(i), Body: []byte(body)})
	}
	return out
}

func logOf(records []impl.Record) []byte {
	var out []byte
	for _, r := range records {
		out = append(out, recordOf(r.Seq, string(r.Body))...)
	}
	return out
}

func turned(b []byte, bit int) []byte {
	out := bytes.Clone(b)
	out[bit/8] ^= 1 << (bit % 8)
	return out
}

func sameRecord(r, s impl.Record) bool {
	return r.Seq == s.Seq && bytes.Equal(r.Body, s.Body)
}

func wantLog(t *testing.T, what string, log []byte, want []impl.Record, taken int) {
	t.Helper()
	got, n := impl.ReadLog(log)
	if !slices.EqualFunc(got, want, sameRecord) || n != taken {
		t.Errorf("%s: %d records in %d bytes, want %d records in %d bytes", what, len(got), n, len(want), taken)
	}
}

func wantCorrupt(t *testing.T, what string, b []byte) {
	t.Helper()
	seq, body, code := impl.DecodeSnapshot(b)
	if seq != 0 || len(body) != 0 || code != impl.CodeCorrupt {
		t.Errorf("%s: seq %d, %d bytes, code %d, want 0, none, CodeCorrupt", what, seq, len(body), code)
	}
}

func wantSnapshot(t *testing.T, what string, b []byte, seq uint64, body []byte) {
	t.Helper()
	gotSeq, gotBody, code := impl.DecodeSnapshot(b)
	if gotSeq != seq || !bytes.Equal(gotBody, body) || code != impl.CodeOK {
		t.Errorf("%s: seq %d, %d bytes, code %d, want seq %d, %d bytes, CodeOK", what, gotSeq, len(gotBody), code, seq, len(body))
	}
}

func wantBytes(t *testing.T, what string, got, want []byte) {
	t.Helper()
	if bytes.Equal(got, want) {
		return
	}
	if len(got) > 60 || len(want) > 60 {
		t.Errorf("%s: %d bytes, want other %d bytes", what, len(got), len(want))
		return
	}
	t.Errorf("%s: %v, want %v", what, got, want)
}
