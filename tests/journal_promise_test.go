package tests

import (
	"bytes"
	"encoding/binary"
	"math"
	"math/rand"
	"testing"

	"loop.example/s02132/impl"
)

// everyList has lists of none, one and several records.
func everyList() [][]impl.Record {
	longest := string(someBytes(impl.MaxBody))
	return [][]impl.Record{
		nil,
		recordsFrom(0, ""),
		recordsFrom(1, "one"),
		recordsFrom(math.MaxUint64, "last"),
		recordsFrom(8, longest),
		recordsFrom(0, "", "", ""),
		recordsFrom(250, "one", "two", "", "four", longest, "six", "seven"),
		recordsFrom(math.MaxUint64-1, "last but one", "last"),
	}
}

// tails has records whose beginnings may stand behind a list: the one that
// would follow it, others, and the longest.
func tails(records []impl.Record) []impl.Record {
	next := uint64(1)
	if len(records) > 0 {
		next = records[len(records)-1].Seq + 1
	}
	return []impl.Record{
		{Seq: next},
		{Seq: next, Body: []byte("torn")},
		{Seq: next, Body: make([]byte, 40)},
		{Seq: next, Body: someBytes(impl.MaxBody)},
		{Seq: 0, Body: []byte{0}},
		{Seq: math.MaxUint64, Body: logOf(recordsFrom(next, "inner", "records"))},
	}
}

// Promise 2: behind the records stands every beginning of another's bytes.
func TestReadLogAnswersWhatStandsBeforeATornTail(t *testing.T) {
	for _, records := range everyList() {
		whole := logOf(records)
		for _, r := range tails(records) {
			tail := impl.EncodeRecord(r)
			for n := range tail {
				wantLog(t, "a torn tail", append(whole[:len(whole):len(whole)], tail[:n]...), records, len(whole))
			}
		}
	}
}

// Every beginning of a log answers the records that are whole in it.
func TestReadLogOfEveryBeginning(t *testing.T) {
	for _, records := range everyList() {
		log := logOf(records)
		count, taken := 0, 0
		for n := range len(log) + 1 {
			if count < len(records) && taken+frame+len(records[count].Body) <= n {
				taken += frame + len(records[count].Body)
				count++
			}
			wantLog(t, "a beginning", log[:n], records[:count], taken)
		}
	}
}

// startsWhole asks by the document's words alone whether a record that may come
// after the last one stands at the beginning of b.
func startsWhole(b []byte, last []impl.Record) bool {
	if len(b) < frame {
		return false
	}
	n := int(binary.LittleEndian.Uint16(b))
	if n > impl.MaxBody || len(b) < frame+n || !bytes.Equal(sumBehind(b[:10+n]), b[:frame+n]) {
		return false
	}
	seq := binary.LittleEndian.Uint64(b[2:])
	return len(last) == 0 || seq != 0 && seq-1 == last[len(last)-1].Seq
}

// wantExact is promise 3 for one list of bytes, and that the reading did not
// end too early.
func wantExact(t *testing.T, what string, b []byte) {
	t.Helper()
	records, taken := impl.ReadLog(b)
	if taken < 0 || taken > len(b) {
		t.Fatalf("%s: %d bytes taken of %d", what, taken, len(b))
	}
	var again []byte
	for i, r := range records {
		again = append(again, impl.EncodeRecord(r)...)
		if i > 0 && (records[i-1].Seq == math.MaxUint64 || r.Seq != records[i-1].Seq+1) {
			t.Errorf("%s: %d after %d", what, r.Seq, records[i-1].Seq)
		}
	}
	wantBytes(t, what+": what was taken", again, b[:taken])
	if startsWhole(b[taken:], records) {
		t.Errorf("%s: ended before a whole record", what)
	}
	seq, body, code := impl.DecodeSnapshot(b)
	if code == impl.CodeOK {
		wantBytes(t, what+": the snapshot", impl.EncodeSnapshot(seq, body), b)
	} else {
		wantCorrupt(t, what, b)
	}
}

// Promise 3, for all lists of few bytes and for those of many repeated ones.
func TestEveryFewBytesAreAnswered(t *testing.T) {
	for a := range 256 {
		wantExact(t, "one byte", []byte{byte(a)})
		for b := range 256 {
			wantExact(t, "two bytes", []byte{byte(a), byte(b)})
		}
		for n := range 40 {
			wantExact(t, "one byte repeated", bytes.Repeat([]byte{byte(a)}, n))
		}
		wantExact(t, "one byte repeated", bytes.Repeat([]byte{byte(a)}, 3*impl.MaxBody))
	}
}

// changed is the log with a few of its bytes changed, cut out or doubled.
func changed(log []byte, random *rand.Rand) []byte {
	out := bytes.Clone(log)
	for range random.Intn(4) {
		at, end := random.Intn(len(out)), random.Intn(len(out))
		switch random.Intn(4) {
		case 0:
			out[at] = byte(random.Intn(256))
		case 1:
			out[at] ^= 1 << random.Intn(8)
		case 2:
			out = append(out[:at], out[min(at+end%20, len(out)):]...)
		case 3:
			out = append(bytes.Clone(out[:at]), out[min(at, end):]...)
		}
		if len(out) == 0 {
			return nil
		}
	}
	return out
}

// Promise 3, for bytes near to what was written.
func TestChangedBytesAreAnswered(t *testing.T) {
	random := rand.New(rand.NewSource(2132))
	starts := greatNumbers()
	for range 20000 {
		var bodies []string
		for range 1 + random.Intn(5) {
			bodies = append(bodies, string(someBytes(random.Intn(30))))
		}
		records := recordsFrom(starts[random.Intn(len(starts))], bodies...)
		wantExact(t, "a changed log", changed(logOf(records), random))
		snapshot := snapshotOf(records[0].Seq, logOf(records[1:]))
		wantExact(t, "a changed snapshot", changed(snapshot, random))
		wantExact(t, "records put anyhow", shuffled(records, random))
	}
}

// shuffled has whole records in any order, some of them twice or not at all.
func shuffled(records []impl.Record, random *rand.Rand) []byte {
	var out []byte
	for range len(records) + 1 {
		r := records[random.Intn(len(records))]
		out = append(out, recordOf(r.Seq, string(r.Body))...)
	}
	return out
}
