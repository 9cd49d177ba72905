package impl

import "slices"

const (
	CodeOK      = 0
	CodeBad     = 1
	CodeForm    = 2
	CodeSession = 3
	CodePath    = 4
	CodeNone    = 5
	CodeExists  = 6
	CodeParent  = 7
	CodeChild   = 8
	CodeBusy    = 9
	CodeFree    = 10
	CodeFull    = 11
	CodeCounter = 12
	CodeCorrupt = 13
	CodeLost    = 14
	CodePending = 15
)

const (
	FileLog  = 0
	FileSnap = 1
	FileTemp = 2
)

const (
	MaxFile = 200000
	MaxLog  = 4000
)

// File is some bytes, the first of which are safe.
type File struct {
	Data   []byte
	Synced int
}

// Disk has three files.
type Disk struct {
	Log  File
	Snap File
	Temp File
}

// files is a disk inside: the number of a file is its place.
type files [3]File

func (f File) valid() bool {
	return len(f.Data) <= MaxFile && 0 <= f.Synced && f.Synced <= len(f.Data)
}

func (f File) hasRoomFor(b []byte) bool {
	return len(b) <= MaxFile-len(f.Data)
}

func (f File) copied() File {
	return File{Data: slices.Concat(f.Data), Synced: f.Synced}
}

// appended joins in new memory: append could write into the room behind the
// caller's list.
func (f File) appended(b []byte) File {
	return File{Data: slices.Concat(f.Data, b), Synced: f.Synced}
}

func (f File) allSafe() File {
	return File{Data: f.Data, Synced: len(f.Data)}
}

// crashed takes the min before it adds: Synced + keep could wrap round.
func (f File) crashed(keep int) File {
	unsynced := len(f.Data) - f.Synced
	return File{Data: f.Data[:f.Synced+min(keep, unsynced)]}.allSafe()
}

func filesOf(d Disk) files {
	return files{FileLog: d.Log, FileSnap: d.Snap, FileTemp: d.Temp}
}

func (fs files) valid() bool {
	for _, f := range fs {
		if !f.valid() {
			return false
		}
	}
	return true
}

func (fs files) has(file int) bool {
	return 0 <= file && file < len(fs)
}

// disk copies every file, so that what the methods of File have borrowed from
// an argument does not get out.
func (fs files) disk() Disk {
	return Disk{
		Log:  fs[FileLog].copied(),
		Snap: fs[FileSnap].copied(),
		Temp: fs[FileTemp].copied(),
	}
}

func ValidDisk(d Disk) bool {
	return filesOf(d).valid()
}

func DiskAppend(d Disk, file int, b []byte) (Disk, int) {
	fs := filesOf(d)
	if !fs.valid() || !fs.has(file) {
		return Disk{}, CodeBad
	}
	if !fs[file].hasRoomFor(b) {
		return fs.disk(), CodeFull
	}
	fs[file] = fs[file].appended(b)
	return fs.disk(), CodeOK
}

func DiskSync(d Disk, file int) (Disk, int) {
	fs := filesOf(d)
	if !fs.valid() || !fs.has(file) {
		return Disk{}, CodeBad
	}
	fs[file] = fs[file].allSafe()
	return fs.disk(), CodeOK
}

func DiskReset(d Disk, file int) (Disk, int) {
	fs := filesOf(d)
	if !fs.valid() || !fs.has(file) {
		return Disk{}, CodeBad
	}
	fs[file] = File{}
	return fs.disk(), CodeOK
}

func DiskRename(d Disk) (Disk, int) {
	fs := filesOf(d)
	if !fs.valid() {
		return Disk{}, CodeBad
	}
	fs[FileSnap], fs[FileTemp] = fs[FileTemp], File{}
	return fs.disk(), CodeOK
}

func DiskCrash(d Disk, keep int) (Disk, int) {
	fs := filesOf(d)
	if !fs.valid() || keep < 0 {
		return Disk{}, CodeBad
	}
	for i, f := range fs {
		fs[i] = f.crashed(keep)
	}
	return fs.disk(), CodeOK
}
