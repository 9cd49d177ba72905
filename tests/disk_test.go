package tests

import (
	"math"
	"testing"

	"loop.example/s02132/impl"
)

func TestDiskConstants(t *testing.T) {
	codes := []int{
		impl.CodeOK, impl.CodeBad, impl.CodeForm, impl.CodeSession, impl.CodePath, impl.CodeNone, impl.CodeExists, impl.CodeParent,
		impl.CodeChild, impl.CodeBusy, impl.CodeFree, impl.CodeFull, impl.CodeCounter, impl.CodeCorrupt, impl.CodeLost, impl.CodePending,
	}
	for want, code := range codes {
		wantCode(t, "constant", code, want)
	}
	for want, file := range everyFile {
		if file != want {
			t.Errorf("file number %d, want %d", file, want)
		}
	}
	if impl.MaxFile != 200000 || impl.MaxLog != 4000 {
		t.Errorf("MaxFile %d, MaxLog %d", impl.MaxFile, impl.MaxLog)
	}
}

func validFiles() []impl.File {
	return []impl.File{
		{},
		{Data: []byte{}},
		newFile("abc", 0), newFile("abc", 2), newFile("abc", 3),
		zeroFile(impl.MaxFile, 0), zeroFile(impl.MaxFile, impl.MaxFile),
	}
}

func invalidFiles() []impl.File {
	return []impl.File{
		newFile("", -1), newFile("", 1),
		newFile("abc", -1), newFile("abc", 4), newFile("abc", math.MinInt), newFile("abc", math.MaxInt),
		zeroFile(impl.MaxFile+1, 0), zeroFile(impl.MaxFile+1, impl.MaxFile+1),
		zeroFile(impl.MaxFile, impl.MaxFile+1),
	}
}

func TestValidDisk(t *testing.T) {
	if !impl.ValidDisk(impl.Disk{}) {
		t.Error("the zero Disk is not valid")
	}
	for _, file := range everyFile {
		for i, f := range validFiles() {
			if !impl.ValidDisk(diskWith(file, f)) {
				t.Errorf("file %d, good %d: not valid", file, i)
			}
		}
		for i, f := range invalidFiles() {
			if impl.ValidDisk(diskWith(file, f)) {
				t.Errorf("file %d, bad %d: valid", file, i)
			}
		}
	}
}

func TestDiskCallsAnswerValidDisks(t *testing.T) {
	for _, file := range everyFile {
		for _, f := range validFiles() {
			for _, c := range everyCall() {
				got, code := c.run(diskWith(file, f))
				if !impl.ValidDisk(got) || code != impl.CodeOK && code != impl.CodeFull {
					t.Errorf("%s, file %d: code %d, valid %v", c.name, file, code, impl.ValidDisk(got))
				}
			}
		}
	}
}

func TestDiskCallsRefuseInvalidDisks(t *testing.T) {
	for _, file := range everyFile {
		for _, f := range invalidFiles() {
			for _, c := range everyCall() {
				got, code := c.run(diskWith(file, f))
				wantCode(t, c.name, code, impl.CodeBad)
				wantDisk(t, c.name, got, impl.Disk{})
			}
		}
	}
}

func TestDiskCallsRefuseOtherFileNumbers(t *testing.T) {
	for _, file := range []int{-1, 3, 4, 256, math.MinInt, math.MaxInt} {
		calls := []diskCall{
			appendCall(file, nil), appendCall(file, []byte("x")), appendCall(file, make([]byte, impl.MaxFile+1)),
			syncCall(file), resetCall(file),
		}
		for _, c := range calls {
			got, code := c.run(ordinaryDisk())
			wantCode(t, c.name, code, impl.CodeBad)
			wantDisk(t, c.name, got, impl.Disk{})
		}
	}
}

func TestDiskAppend(t *testing.T) {
	for _, file := range everyFile {
		old := ordinaryDisk()
		for _, b := range []string{"", "!", "and more"} {
			f := *fileAt(&old, file)
			want := diskWith(file, newFile(string(f.Data)+b, f.Synced))
			got, code := impl.DiskAppend(old, file, []byte(b))
			wantCode(t, "append", code, impl.CodeOK)
			wantDisk(t, "append", got, want)
		}
		got, code := impl.DiskAppend(old, file, nil)
		wantCode(t, "append of nil", code, impl.CodeOK)
		wantDisk(t, "append of nil", got, old)

		got, code = impl.DiskAppend(diskWith(file, impl.File{}), file, []byte("first"))
		wantCode(t, "append to an empty file", code, impl.CodeOK)
		wantDisk(t, "append to an empty file", got, diskWith(file, newFile("first", 0)))
	}
}

func TestDiskAppendAtTheLimit(t *testing.T) {
	cases := []struct{ size, synced, more, code int }{
		{impl.MaxFile - 3, 7, 2, impl.CodeOK},
		{impl.MaxFile - 3, 7, 3, impl.CodeOK},
		{impl.MaxFile - 3, 7, 4, impl.CodeFull},
		{impl.MaxFile, impl.MaxFile, 0, impl.CodeOK},
		{impl.MaxFile, impl.MaxFile, 1, impl.CodeFull},
		{impl.MaxFile, 0, impl.MaxFile, impl.CodeFull},
		{0, 0, impl.MaxFile, impl.CodeOK},
		{0, 0, impl.MaxFile + 1, impl.CodeFull},
	}
	for _, file := range everyFile {
		for _, c := range cases {
			old := diskWith(file, zeroFile(c.size, c.synced))
			want := old
			if c.code == impl.CodeOK {
				want = diskWith(file, zeroFile(c.size+c.more, c.synced))
			}
			got, code := impl.DiskAppend(old, file, make([]byte, c.more))
			wantCode(t, "append at the limit", code, c.code)
			wantDisk(t, "append at the limit", got, want)
		}
	}
}

func TestDiskSync(t *testing.T) {
	for _, file := range everyFile {
		for _, f := range validFiles() {
			want := f
			want.Synced = len(f.Data)
			got, code := impl.DiskSync(diskWith(file, f), file)
			wantCode(t, "sync", code, impl.CodeOK)
			wantDisk(t, "sync", got, diskWith(file, want))
		}
	}
}

func TestDiskReset(t *testing.T) {
	for _, file := range everyFile {
		for _, f := range validFiles() {
			got, code := impl.DiskReset(diskWith(file, f), file)
			wantCode(t, "reset", code, impl.CodeOK)
			wantDisk(t, "reset", got, diskWith(file, impl.File{}))

			got, code = impl.DiskCrash(got, 0)
			wantCode(t, "crash after a reset", code, impl.CodeOK)
			wantFile(t, "crash after a reset", *fileAt(&got, file), impl.File{})
		}
	}
}

func TestDiskRename(t *testing.T) {
	for _, f := range validFiles() {
		for _, g := range validFiles() {
			old := impl.Disk{Log: newFile("logbytes", 3), Snap: g, Temp: f}
			got, code := impl.DiskRename(old)
			wantCode(t, "rename", code, impl.CodeOK)
			wantDisk(t, "rename", got, impl.Disk{Log: newFile("logbytes", 3), Snap: f})
		}
	}
}

func TestDiskCrashOfEachFile(t *testing.T) {
	cases := []struct {
		data   string
		synced int
		keep   int
		want   string
	}{
		{"", 0, 0, ""}, {"", 0, 1, ""}, {"", 0, math.MaxInt, ""},
		{"abcdef", 0, 0, ""}, {"abcdef", 0, 1, "a"}, {"abcdef", 0, 5, "abcde"}, {"abcdef", 0, 6, "abcdef"}, {"abcdef", 0, 7, "abcdef"},
		{"abcdef", 2, 0, "ab"}, {"abcdef", 2, 1, "abc"}, {"abcdef", 2, 3, "abcde"}, {"abcdef", 2, 4, "abcdef"}, {"abcdef", 2, 5, "abcdef"},
		{"abcdef", 2, math.MaxInt - 1, "abcdef"}, {"abcdef", 2, math.MaxInt, "abcdef"},
		{"abcdef", 6, 0, "abcdef"}, {"abcdef", 6, 1, "abcdef"}, {"abcdef", 6, math.MaxInt, "abcdef"},
	}
	for _, file := range everyFile {
		for _, c := range cases {
			old := impl.Disk{Log: newFile("l", 1), Snap: newFile("s", 1), Temp: newFile("t", 1)}
			want := old
			*fileAt(&old, file) = newFile(c.data, c.synced)
			*fileAt(&want, file) = newFile(c.want, len(c.want))
			got, code := impl.DiskCrash(old, c.keep)
			wantCode(t, "crash", code, impl.CodeOK)
			wantDisk(t, "crash", got, want)
		}
	}
}

func TestDiskCrashKeepsFromEachFileAlike(t *testing.T) {
	got, code := impl.DiskCrash(ordinaryDisk(), 3)
	wantCode(t, "crash", code, impl.CodeOK)
	wantDisk(t, "crash", got, impl.Disk{Log: newFile("logbyt", 6), Snap: newFile("snapsho", 7), Temp: newFile("tempfile!", 9)})
}

func TestDiskCrashOfFullFiles(t *testing.T) {
	full := zeroFile(impl.MaxFile, impl.MaxFile-2)
	for keep, size := range []int{impl.MaxFile - 2, impl.MaxFile - 1, impl.MaxFile, impl.MaxFile} {
		got, code := impl.DiskCrash(impl.Disk{Log: full, Snap: full, Temp: full}, keep)
		left := zeroFile(size, size)
		wantCode(t, "crash", code, impl.CodeOK)
		wantDisk(t, "crash", got, impl.Disk{Log: left, Snap: left, Temp: left})
	}
}

func TestDiskCrashRefusesNegativeKeep(t *testing.T) {
	for _, keep := range []int{-1, -2, math.MinInt} {
		for _, d := range []impl.Disk{{}, ordinaryDisk()} {
			got, code := impl.DiskCrash(d, keep)
			wantCode(t, "crash", code, impl.CodeBad)
			wantDisk(t, "crash", got, impl.Disk{})
		}
	}
}
