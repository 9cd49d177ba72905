package tests

import (
	"bytes"
	"testing"

	"loop.example/s02132/impl"
)

// journalCall is one function of the chapter over one list, with the lists of
// its answer.
type journalCall struct {
	name string
	run  func(b []byte) [][]byte
}

func bodiesOf(records []impl.Record) [][]byte {
	var out [][]byte
	for _, r := range records {
		out = append(out, r.Body)
	}
	return out
}

var journalCalls = []journalCall{
	{"Checksum", func(b []byte) [][]byte { impl.Checksum(b); return nil }},
	{"EncodeRecord", func(b []byte) [][]byte { return [][]byte{impl.EncodeRecord(impl.Record{Seq: 1, Body: b})} }},
	{"ReadLog", func(b []byte) [][]byte { records, _ := impl.ReadLog(b); return bodiesOf(records) }},
	{"EncodeSnapshot", func(b []byte) [][]byte { return [][]byte{impl.EncodeSnapshot(1, b)} }},
	{"DecodeSnapshot", func(b []byte) [][]byte { _, body, _ := impl.DecodeSnapshot(b); return [][]byte{body} }},
}

// journalInputs has logs and snapshots, whole and broken, and other bytes.
func journalInputs() []string {
	log := logOf(recordsFrom(5, "one", "", "three", "four"))
	snapshot := snapshotOf(5, []byte("the body"))
	return []string{
		"", "x", "some bytes",
		string(log), string(log[:len(log)-1]), string(log) + "behind",
		string(snapshot), string(snapshot[1:]), string(snapshotOf(5, nil)),
		string(recordBytes(impl.MaxBody+1, 6, someBytes(impl.MaxBody+1))),
	}
}

func TestJournalCallsHaveOwnMemory(t *testing.T) {
	for _, input := range journalInputs() {
		for _, c := range journalCalls {
			args := [][]byte{roomyFile(input, 0).Data}
			before := copiesOf(args)
			lists := c.run(args[0])
			wantAsWere(t, c.name, args, before, -1)
			for i := range lists {
				answered := copiesOf(lists)
				scribble(lists[i])
				wantAsWere(t, c.name+", an argument under the answer", args, before, -1)
				wantAsWere(t, c.name+", another list of the answer", lists, answered, i)
			}
		}
	}
}

// What was answered stays as it is when the argument is written to later.
func TestJournalAnswersKeepNoArgument(t *testing.T) {
	for _, input := range journalInputs() {
		for _, c := range journalCalls {
			arg := roomyFile(input, 0).Data
			lists := c.run(arg)
			answered := copiesOf(lists)
			scribble(arg)
			wantAsWere(t, c.name, lists, answered, -1)
		}
	}
}

// A call answers the same again, whatever was asked or written in between.
func TestJournalAnswersHangOnTheirArgumentsAlone(t *testing.T) {
	for _, input := range journalInputs() {
		for _, c := range journalCalls {
			first := c.run([]byte(input))
			copies := [][]byte{}
			for _, list := range first {
				copies = append(copies, bytes.Clone(list))
				scribble(list)
			}
			again := c.run([]byte(input))
			if len(again) != len(copies) {
				t.Fatalf("%s: %d lists, then %d", c.name, len(copies), len(again))
			}
			for i := range again {
				wantBytes(t, c.name+" again", again[i], copies[i])
			}
		}
	}
}
