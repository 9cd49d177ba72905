package tests

import (
	"hash/fnv"
	"math"
	"testing"

	"loop.example/s02132/impl"
)

func TestChecksum(t *testing.T) {
	if impl.MaxBody != 1000 {
		t.Errorf("MaxBody %d", impl.MaxBody)
	}
	known := map[string]uint32{"": 0x811c9dc5, "a": 0xe40c292c, "b": 0xe70c2de5, "foobar": 0xbf9cf968, "\x00": 0x050c5d1f}
	for text, want := range known {
		if got := impl.Checksum([]byte(text)); got != want {
			t.Errorf("%q: %#x, want %#x", text, got, want)
		}
	}
	if got := impl.Checksum(nil); got != 0x811c9dc5 {
		t.Errorf("nil: %#x", got)
	}
	for n := range 600 {
		h := fnv.New32a()
		h.Write(someBytes(n))
		if got := impl.Checksum(someBytes(n)); got != h.Sum32() {
			t.Errorf("%d bytes: %#x, want %#x", n, got, h.Sum32())
		}
	}
}

func TestEncodeRecord(t *testing.T) {
	written := []byte{
		3, 0,
		8, 7, 6, 5, 4, 3, 2, 1,
		'a', 'b', 'c',
		0xa2, 0x31, 0xee, 0xed,
	}
	r := impl.Record{Seq: 0x0102030405060708, Body: []byte("abc")}
	wantBytes(t, "as the document says it", impl.EncodeRecord(r), written)

	for _, n := range []int{0, 1, 2, 255, 256, 257, 511, 512, 768, impl.MaxBody - 1, impl.MaxBody} {
		for _, seq := range greatNumbers() {
			body := someBytes(n)
			got := impl.EncodeRecord(impl.Record{Seq: seq, Body: body})
			wantBytes(t, "record", got, recordBytes(uint16(n), seq, body))
		}
	}
	for _, r := range []impl.Record{{}, {Body: []byte{}}} {
		wantBytes(t, "the zero record", impl.EncodeRecord(r), recordOf(0, ""))
	}
}

func TestEncodeRecordRefusesLongBodies(t *testing.T) {
	for _, n := range []int{impl.MaxBody + 1, impl.MaxBody + 2, 65535, 65536, 65537, 65536 + impl.MaxBody, impl.MaxFile} {
		for _, seq := range []uint64{0, 1, math.MaxUint64} {
			wantBytes(t, "too long a body", impl.EncodeRecord(impl.Record{Seq: seq, Body: someBytes(n)}), nil)
		}
	}
}

func TestReadLogOfOneRecord(t *testing.T) {
	for _, n := range []int{0, 1, 2, 255, 256, 257, 512, impl.MaxBody - 1, impl.MaxBody} {
		for _, seq := range greatNumbers() {
			r := impl.Record{Seq: seq, Body: someBytes(n)}
			wantLog(t, "written by the test", recordBytes(uint16(n), seq, r.Body), []impl.Record{r}, frame+n)
			wantLog(t, "written by EncodeRecord", impl.EncodeRecord(r), []impl.Record{r}, frame+n)
		}
	}
}

func TestReadLogOfSeveralRecords(t *testing.T) {
	wantLog(t, "nil", nil, nil, 0)
	wantLog(t, "no bytes", []byte{}, nil, 0)
	for _, seq := range []uint64{0, 1, 255, 65535, 1<<32 - 1, 1<<63 - 2, math.MaxUint64 - 3} {
		records := recordsFrom(seq, "one", "", string(someBytes(impl.MaxBody)), "four")
		wantLog(t, "four records", logOf(records), records, 4*frame+3+impl.MaxBody+4)
	}
	bodies := make([]string, 300)
	records := recordsFrom(7, bodies...)
	wantLog(t, "300 empty bodies", logOf(records), records, 300*frame)
}

func TestReadLogEndsAtALongBody(t *testing.T) {
	whole := recordsFrom(5, "one")
	for _, n := range []int{impl.MaxBody + 1, impl.MaxBody + 2, 1024, 32768, 65535} {
		long := recordBytes(uint16(n), 6, someBytes(n))
		wantLog(t, "long body first", long, nil, 0)
		wantLog(t, "long body behind", append(logOf(whole), long...), whole, frame+3)
		behind := append(append(logOf(whole), long...), recordOf(7, "three")...)
		wantLog(t, "a record behind it", behind, whole, frame+3)
	}
}

// The high byte of the length alone tells these from a record that would fit.
func TestReadLogTakesBothBytesOfTheLength(t *testing.T) {
	body := someBytes(256 + 5)
	whole := []impl.Record{{Seq: 9, Body: body}}
	wantLog(t, "its length", recordBytes(256+5, 9, body), whole, frame+256+5)
	for _, length := range []uint16{5, 512 + 5, 256 + 4, 256 + 6} {
		wantLog(t, "another length", recordBytes(length, 9, body), nil, 0)
	}
	wantLog(t, "a longer length over a short body", recordBytes(256+5, 9, body[:5]), nil, 0)
}

func TestReadLogEndsWhereSeqDoesNotGoOn(t *testing.T) {
	cases := []struct {
		name          string
		before, after uint64
	}{
		{"the same", 5, 5}, {"one left out", 5, 7}, {"one less", 5, 4}, {"zero", 5, 0}, {"the greatest", 5, math.MaxUint64},
		{"the same zero", 0, 0}, {"from zero to two", 0, 2}, {"from zero to the greatest", 0, math.MaxUint64},
		{"zero after the greatest", math.MaxUint64, 0}, {"the greatest again", math.MaxUint64, math.MaxUint64},
		{"one after the greatest", math.MaxUint64, 1}, {"less than the greatest", math.MaxUint64, math.MaxUint64 - 1},
		{"a higher byte more", 5, 6 + 1<<8}, {"the highest byte more", 5, 6 + 1<<56}, {"the highest bit more", 5, 6 + 1<<63},
		{"the upper half more", 5, 6 + 1<<32}, {"the upper half less", 5 + 1<<32, 6},
	}
	for _, c := range cases {
		first := []impl.Record{{Seq: c.before, Body: []byte("first")}}
		log := append(logOf(first), recordOf(c.after, "second")...)
		wantLog(t, c.name, log, first, frame+5)
		wantLog(t, c.name+", and one that would follow", append(log, recordOf(c.before+1, "third")...), first, frame+5)
	}
	three := recordsFrom(math.MaxUint64-2, "x", "y", "z")
	wantLog(t, "up to the greatest", logOf(three), three, 3*frame+3)
	wantLog(t, "and no further", append(logOf(three), recordOf(0, "w")...), three, 3*frame+3)
}

func TestReadLogEndsAtATurnedBit(t *testing.T) {
	whole := recordsFrom(5, "one", "", "three")
	starts := []int{0, frame + 3, 2*frame + 3, 3*frame + 8}
	log := logOf(whole)
	for bit := range 8 * len(log) {
		n := 0
		for starts[n+1] <= bit/8 {
			n++
		}
		wantLog(t, "a turned bit", turned(log, bit), whole[:n], starts[n])
	}
}

func TestReadLogEndsAtOtherBytes(t *testing.T) {
	whole := recordsFrom(0, "one", "two")
	size := 2*frame + 6
	for n := range 64 {
		wantLog(t, "zeros", make([]byte, n), nil, 0)
		wantLog(t, "zeros behind", append(logOf(whole), make([]byte, n)...), whole, size)
		ones := make([]byte, n)
		for i := range ones {
			ones[i] = 0xff
		}
		wantLog(t, "ones", ones, nil, 0)
		wantLog(t, "ones behind", append(logOf(whole), ones...), whole, size)
	}
	skewed := append([]byte{0}, logOf(whole)...)
	wantLog(t, "a byte ahead", skewed, nil, 0)
}

func TestEncodeSnapshot(t *testing.T) {
	written := []byte{
		76, 72, 83, 49,
		8, 7, 6, 5, 4, 3, 2, 1,
		2, 0, 0, 0,
		'h', 'i',
		0x44, 0x33, 0xc4, 0x51,
	}
	wantBytes(t, "as the document says it", impl.EncodeSnapshot(0x0102030405060708, []byte("hi")), written)
	for _, n := range []int{0, 1, 255, 256, 1000, 1001, 65535, 65536, 65537, impl.MaxFile, 1<<24 + 1} {
		body := someBytes(n)
		for _, seq := range []uint64{0, 1, 1 << 56, math.MaxUint64} {
			got := impl.EncodeSnapshot(seq, body)
			wantBytes(t, "snapshot", got, snapshotOf(seq, body))
			wantSnapshot(t, "read back", got, seq, body)
		}
	}
	wantBytes(t, "nil", impl.EncodeSnapshot(0, nil), snapshotOf(0, nil))
}

func TestDecodeSnapshot(t *testing.T) {
	for _, seq := range greatNumbers() {
		for _, n := range []int{0, 1, 20, 255, 256, 1000, 1001} {
			wantSnapshot(t, "written by the test", snapshotOf(seq, someBytes(n)), seq, someBytes(n))
		}
	}
	inner := snapshotOf(3, []byte("inner"))
	wantSnapshot(t, "a snapshot as the body", snapshotOf(4, inner), 4, inner)
}

func TestDecodeSnapshotRefusesOtherSizes(t *testing.T) {
	for _, body := range []string{"", "h", "hello"} {
		good := snapshotOf(259, []byte(body))
		for n := range good {
			wantCorrupt(t, "too few bytes", good[:n])
			wantCorrupt(t, "too few bytes at the front", good[n+1:])
		}
		for n := 1; n < 30; n++ {
			wantCorrupt(t, "zeros behind", append(good[:len(good):len(good)], make([]byte, n)...))
			wantCorrupt(t, "zeros ahead", append(make([]byte, n), good...))
		}
		wantCorrupt(t, "twice", append(good[:len(good):len(good)], good...))
	}
	wantCorrupt(t, "nil", nil)
	wantCorrupt(t, "no bytes", []byte{})
	for n := range 64 {
		wantCorrupt(t, "zeros", make([]byte, n))
	}
	head := snapshotOf(0, nil)[:snapFrame-4]
	for n := range head {
		wantCorrupt(t, "too short a head with a good sum", sumBehind(head[:n]))
	}
}

func TestDecodeSnapshotRefusesOtherMarks(t *testing.T) {
	for _, mark := range []string{"LHS0", "LHS2", "lHS1", "LhS1", "LHs1", "1SHL", "\x00\x00\x00\x00"} {
		wantCorrupt(t, "mark "+mark, snapshotBytes(mark, 7, 2, []byte("hi")))
	}
}

func TestDecodeSnapshotRefusesOtherLengths(t *testing.T) {
	body := someBytes(256 + 2)
	wantSnapshot(t, "its length", snapshotBytes("LHS1", 7, 256+2, body), 7, body)
	for _, length := range []uint32{0, 1, 2, 256 + 1, 256 + 3, 512 + 2, 256 + 2 + 1<<16, 256 + 2 + 1<<24, 256 + 2 + 1<<31, math.MaxUint32} {
		wantCorrupt(t, "another length", snapshotBytes("LHS1", 7, length, body))
	}
	for _, length := range []uint32{1, 4, 1 << 8, 1 << 16, 1 << 24, 1 << 31, math.MaxUint32 - 3, math.MaxUint32} {
		wantCorrupt(t, "a length over no body", snapshotBytes("LHS1", 7, length, nil))
	}
}

func TestDecodeSnapshotRefusesTurnedBits(t *testing.T) {
	good := snapshotOf(1<<56+259, []byte("hello"))
	for bit := range 8 * len(good) {
		wantCorrupt(t, "a turned bit", turned(good, bit))
	}
	// A record is no snapshot, and the other way round.
	wantCorrupt(t, "a record", recordOf(1, "hello"))
	wantLog(t, "a snapshot", good, nil, 0)
}
