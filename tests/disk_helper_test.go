package tests

import (
	"bytes"
	"math"
	"testing"

	"loop.example/s02132/impl"
)

var everyFile = []int{impl.FileLog, impl.FileSnap, impl.FileTemp}

func newFile(data string, synced int) impl.File {
	return impl.File{Data: []byte(data), Synced: synced}
}

func zeroFile(size, synced int) impl.File {
	return impl.File{Data: make([]byte, size), Synced: synced}
}

// ordinaryDisk has three files that differ in everything, so that a mix-up shows.
func ordinaryDisk() impl.Disk {
	return impl.Disk{Log: newFile("logbytes", 3), Snap: newFile("snapshot!", 4), Temp: newFile("tempfile!!", 6)}
}

func fileAt(d *impl.Disk, file int) *impl.File {
	switch file {
	case impl.FileLog:
		return &d.Log
	case impl.FileSnap:
		return &d.Snap
	}
	return &d.Temp
}

// diskWith is an ordinary disk but for one file.
func diskWith(file int, f impl.File) impl.Disk {
	d := ordinaryDisk()
	*fileAt(&d, file) = f
	return d
}

func sameFile(f, g impl.File) bool {
	return bytes.Equal(f.Data, g.Data) && f.Synced == g.Synced
}

func wantFile(t *testing.T, what string, got, want impl.File) {
	t.Helper()
	if sameFile(got, want) {
		return
	}
	if len(got.Data) > 40 || len(want.Data) > 40 {
		t.Errorf("%s: %d bytes, %d synced, want %d bytes, %d synced", what, len(got.Data), got.Synced, len(want.Data), want.Synced)
		return
	}
	t.Errorf("%s: %q, %d synced, want %q, %d synced", what, got.Data, got.Synced, want.Data, want.Synced)
}

func wantDisk(t *testing.T, what string, got, want impl.Disk) {
	t.Helper()
	wantFile(t, what+", Log", got.Log, want.Log)
	wantFile(t, what+", Snap", got.Snap, want.Snap)
	wantFile(t, what+", Temp", got.Temp, want.Temp)
}

func wantCode(t *testing.T, what string, got, want int) {
	t.Helper()
	if got != want {
		t.Errorf("%s: code %d, want %d", what, got, want)
	}
}

// diskCall is one function of the chapter with its arguments but the disk.
type diskCall struct {
	name string
	run  func(d impl.Disk) (impl.Disk, int)
}

func appendCall(file int, b []byte) diskCall {
	return diskCall{"DiskAppend", func(d impl.Disk) (impl.Disk, int) { return impl.DiskAppend(d, file, b) }}
}

func syncCall(file int) diskCall {
	return diskCall{"DiskSync", func(d impl.Disk) (impl.Disk, int) { return impl.DiskSync(d, file) }}
}

func resetCall(file int) diskCall {
	return diskCall{"DiskReset", func(d impl.Disk) (impl.Disk, int) { return impl.DiskReset(d, file) }}
}

func renameCall() diskCall {
	return diskCall{"DiskRename", impl.DiskRename}
}

func crashCall(keep int) diskCall {
	return diskCall{"DiskCrash", func(d impl.Disk) (impl.Disk, int) { return impl.DiskCrash(d, keep) }}
}

// everyCall has each function, for each file and for small and great arguments.
func everyCall() []diskCall {
	calls := []diskCall{renameCall()}
	for _, keep := range []int{0, 1, 2, 5, 100, math.MaxInt} {
		calls = append(calls, crashCall(keep))
	}
	for _, file := range everyFile {
		calls = append(calls, syncCall(file), resetCall(file))
		for _, b := range []string{"", "x", "some more bytes"} {
			calls = append(calls, appendCall(file, []byte(b)))
		}
		calls = append(calls, appendCall(file, make([]byte, impl.MaxFile+1)))
	}
	return calls
}
