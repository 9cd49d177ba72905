package tests

import (
	"bytes"
	"math"
	"testing"

	"loop.example/s02132/impl"
)

// roomyFile has room behind its bytes, where a careless append would write.
func roomyFile(data string, synced int) impl.File {
	memory := bytes.Repeat([]byte{'.'}, len(data)+64)
	copy(memory, data)
	return impl.File{Data: memory[:len(data)], Synced: synced}
}

// memoryOf is the list with all the room behind it.
func memoryOf(list []byte) []byte {
	return list[:cap(list)]
}

func listsOf(d impl.Disk) [][]byte {
	return [][]byte{d.Log.Data, d.Snap.Data, d.Temp.Data}
}

func scribble(list []byte) {
	memory := memoryOf(list)
	for i := range memory {
		memory[i] ^= 0xff
	}
}

func copiesOf(lists [][]byte) [][]byte {
	var out [][]byte
	for _, list := range lists {
		out = append(out, bytes.Clone(memoryOf(list)))
	}
	return out
}

// wantAsWere asks that the lists, but the one numbered `but`, are as their copies.
func wantAsWere(t *testing.T, what string, lists, copies [][]byte, but int) {
	t.Helper()
	for i, list := range lists {
		if i != but && !bytes.Equal(memoryOf(list), copies[i]) {
			t.Errorf("%s: list %d was written to", what, i)
		}
	}
}

// wantOwnMemory asks that the call writes into no argument, that the answer
// shares no memory with one, and that its lists share none among them.
func wantOwnMemory(t *testing.T, c diskCall, d impl.Disk, b []byte) {
	t.Helper()
	args := append(listsOf(d), b)
	before := copiesOf(args)
	got, _ := c.run(d)
	wantAsWere(t, c.name, args, before, -1)

	lists := listsOf(got)
	for i := range lists {
		answered := copiesOf(lists)
		scribble(lists[i])
		wantAsWere(t, c.name+", an argument under the answer", args, before, -1)
		wantAsWere(t, c.name+", another list of the answer", lists, answered, i)
	}
}

func callsWith(b []byte) []diskCall {
	calls := []diskCall{renameCall(), crashCall(0), crashCall(1), crashCall(math.MaxInt)}
	for _, file := range everyFile {
		calls = append(calls, syncCall(file), resetCall(file), appendCall(file, b))
	}
	return calls
}

func TestDiskCallsHaveOwnMemory(t *testing.T) {
	d := impl.Disk{Log: roomyFile("logbytes", 3), Snap: roomyFile("snapshot!", 4), Temp: roomyFile("tempfile!!", 6)}
	more := roomyFile("more", 0).Data
	for _, c := range callsWith(more) {
		wantOwnMemory(t, c, d, more)
	}
	empty := impl.Disk{Log: roomyFile("", 0), Snap: roomyFile("", 0), Temp: roomyFile("", 0)}
	for _, b := range [][]byte{nil, roomyFile("", 0).Data, more} {
		for _, c := range callsWith(b) {
			wantOwnMemory(t, c, empty, b)
			wantOwnMemory(t, c, d, b)
		}
	}
}

func TestRefusedAppendHasOwnMemory(t *testing.T) {
	full := impl.Disk{Log: roomyFile("l", 1), Snap: roomyFile("s", 0), Temp: roomyFile("t", 1)}
	more := make([]byte, impl.MaxFile)
	for _, file := range everyFile {
		wantOwnMemory(t, appendCall(file, more), full, more)
	}
}

// The arguments themselves may share memory; the answer's lists still may not.
func TestDiskOfSharedMemory(t *testing.T) {
	one := roomyFile("abcdef", 2)
	d := impl.Disk{Log: one, Snap: one, Temp: one}
	for _, c := range callsWith(one.Data[2:4]) {
		wantOwnMemory(t, c, d, one.Data)
	}
	got, code := impl.DiskAppend(d, impl.FileSnap, one.Data[2:4])
	wantCode(t, "append", code, impl.CodeOK)
	wantDisk(t, "append", got, impl.Disk{Log: newFile("abcdef", 2), Snap: newFile("abcdefcd", 2), Temp: newFile("abcdef", 2)})
}
