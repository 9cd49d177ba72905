package tests

import (
	"bytes"
	"math"
	"testing"

	"loop.example/s02132/impl"
)

// smallFiles has every file of at most four bytes, by length and Synced.
func smallFiles() []impl.File {
	var out []impl.File
	for n := 0; n <= 4; n++ {
		for synced := 0; synced <= n; synced++ {
			out = append(out, newFile("abcd"[:n], synced))
		}
	}
	return out
}

// keepsSafe runs every order of up to `left` appends and crashes and asks after
// each that the file still begins with what was safe.
func keepsSafe(t *testing.T, d impl.Disk, file int, safe []byte, left int) {
	t.Helper()
	f := *fileAt(&d, file)
	if !bytes.HasPrefix(f.Data, safe) || f.Synced < len(safe) {
		t.Errorf("file %d: %q with %d synced has lost some of %q", file, f.Data, f.Synced, safe)
		return
	}
	if left == 0 {
		return
	}
	calls := []diskCall{appendCall(file, nil), appendCall(file, []byte("xy")), crashCall(0), crashCall(1), crashCall(math.MaxInt)}
	for _, c := range calls {
		next, code := c.run(d)
		wantCode(t, c.name, code, impl.CodeOK)
		keepsSafe(t, next, file, safe, left-1)
	}
}

// Promise 1, first half.
func TestWhatIsSyncedStays(t *testing.T) {
	for _, file := range everyFile {
		for _, f := range smallFiles() {
			d, code := impl.DiskSync(diskWith(file, f), file)
			wantCode(t, "sync", code, impl.CodeOK)
			keepsSafe(t, d, file, f.Data, 4)
		}
	}
}

func TestWhatIsSyncedStaysInAFullFile(t *testing.T) {
	for _, file := range everyFile {
		data := bytes.Repeat([]byte("0123456789"), impl.MaxFile/10)
		d, _ := impl.DiskSync(diskWith(file, impl.File{Data: data}), file)
		d, code := impl.DiskAppend(d, file, []byte("x"))
		wantCode(t, "append", code, impl.CodeFull)
		d, code = impl.DiskCrash(d, 0)
		wantCode(t, "crash", code, impl.CodeOK)
		wantFile(t, "after the crash", *fileAt(&d, file), impl.File{Data: data, Synced: len(data)})
	}
}

// Promise 1, second half; and one byte less does lose one.
func TestCrashThatKeepsAllLosesNothing(t *testing.T) {
	for _, f := range smallFiles() {
		unsynced := len(f.Data) - f.Synced
		for _, keep := range []int{unsynced, unsynced + 1, len(f.Data) + 1, impl.MaxFile + 1, math.MaxInt - f.Synced, math.MaxInt} {
			got, code := impl.DiskCrash(impl.Disk{Log: f, Snap: f, Temp: f}, keep)
			all := impl.File{Data: f.Data, Synced: len(f.Data)}
			wantCode(t, "crash", code, impl.CodeOK)
			wantDisk(t, "crash", got, impl.Disk{Log: all, Snap: all, Temp: all})
		}
		if unsynced > 0 {
			got, _ := impl.DiskCrash(impl.Disk{Log: f, Snap: f, Temp: f}, unsynced-1)
			most := impl.File{Data: f.Data[:len(f.Data)-1], Synced: len(f.Data) - 1}
			wantDisk(t, "crash", got, impl.Disk{Log: most, Snap: most, Temp: most})
		}
	}
}
