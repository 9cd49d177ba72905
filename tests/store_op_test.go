package tests

import (
	"fmt"
	"math"
	"slices"
	"strings"
	"testing"

	"loop.example/s02132/impl"
)

// opRow is a row of the document's table: which fields a kind has, by their
// first letters (Q: the sequencer), and which values of Flag.
type opRow struct {
	kind      int
	fields    string
	flags     []int
	journaled bool
}

var opRows = []opRow{
	{impl.OpOpen, "", []int{0}, true},
	{impl.OpKeep, "S", []int{0}, false},
	{impl.OpClose, "S", []int{0}, true},
	{impl.OpCreate, "SPV", []int{0, 1}, true},
	{impl.OpDelete, "SP", []int{0}, true},
	{impl.OpGet, "P", []int{0}, false},
	{impl.OpSet, "SPV", []int{0}, true},
	{impl.OpLock, "SP", []int{1, 2}, true},
	{impl.OpUnlock, "SP", []int{0}, true},
	{impl.OpCheck, "SPQ", []int{0}, false},
	{impl.OpWatch, "SP", []int{0}, false},
	{impl.OpPoll, "S", []int{0}, false},
	{impl.OpList, "P", []int{0}, false},
}

func (r opRow) has(field string) bool {
	return strings.Contains(r.fields, field)
}

// bare has nothing but its Kind and the Flag that it must have.
func (r opRow) bare() impl.Op {
	return impl.Op{Kind: r.kind, Flag: r.flags[0]}
}

// ordinary has something in each field that its row names.
func (r opRow) ordinary() impl.Op {
	op := impl.Op{Kind: r.kind, Flag: r.flags[len(r.flags)-1]}
	if r.has("S") {
		op.Session = 300
	}
	if r.has("P") {
		op.Path = []byte("/a/b-1")
	}
	if r.has("V") {
		op.Value = []byte("some value")
	}
	if r.has("Q") {
		op.Epoch, op.Gen = 3, 500
	}
	return op
}

// wantWritten asks for the request's bytes, and for it out of them.
func wantWritten(t *testing.T, what string, op impl.Op) {
	t.Helper()
	wantBytes(t, what, impl.EncodeOp(op), opBytes(op))
	wantOp(t, what+", read back", opBytes(op), op)
}

// wantNotWritten asks also that nothing is read out of what its bytes would be.
func wantNotWritten(t *testing.T, what string, op impl.Op) {
	t.Helper()
	wantBytes(t, what, impl.EncodeOp(op), nil)
	// These are not in the bytes: without them the request may be a good one.
	if op.Epoch == 0 && op.Gen == 0 && 0 <= op.Flag && op.Flag < 256 && 0 <= op.Kind && op.Kind < 256 {
		wantNoOp(t, what, opBytes(op))
	}
}

func TestStoreConstants(t *testing.T) {
	for i, r := range opRows {
		if r.kind != i+1 {
			t.Errorf("kind %d in row %d", r.kind, i+1)
		}
	}
	got := []int{impl.ModeFree, impl.ModeExclusive, impl.ModeShared, impl.EvChanged, impl.EvDeleted, impl.EvFreed, impl.EvOverflow}
	if want := []int{0, 1, 2, 1, 2, 3, 4}; !slices.Equal(got, want) {
		t.Errorf("modes and events %v, want %v", got, want)
	}
	got = []int{impl.MaxNodes, impl.MaxSessions, impl.MaxValue, impl.MaxName, impl.MaxDepth, impl.MaxQueue, impl.MaxNow, impl.MaxCounter}
	if want := []int{200, 50, 40, 16, 8, 8, 1000000, 1 << 62}; !slices.Equal(got, want) {
		t.Errorf("limits %v, want %v", got, want)
	}
}

func TestEncodeOp(t *testing.T) {
	written := []struct {
		op impl.Op
		b  []byte
	}{
		{impl.Op{Kind: impl.OpOpen}, []byte{1, 0, 0, 0, 0}},
		{impl.Op{Kind: impl.OpClose, Session: 127}, []byte{3, 127, 0, 0, 0}},
		{impl.Op{Kind: impl.OpClose, Session: 128}, []byte{3, 128, 1, 0, 0, 0}},
		{impl.Op{Kind: impl.OpCreate, Session: 300, Path: []byte("/a"), Flag: 1, Value: []byte("hi")}, []byte{4, 172, 2, 2, '/', 'a', 1, 2, 'h', 'i'}},
		{impl.Op{Kind: impl.OpDelete, Session: 16384, Path: []byte("/b")}, []byte{5, 128, 128, 1, 2, '/', 'b', 0, 0}},
		{impl.Op{Kind: impl.OpSet, Session: math.MaxUint64, Value: []byte{0}}, []byte{7, 255, 255, 255, 255, 255, 255, 255, 255, 255, 1, 0, 0, 1, 0}},
		{impl.Op{Kind: impl.OpLock, Session: 1, Path: []byte("?"), Flag: 2}, []byte{8, 1, 1, '?', 2, 0}},
		{impl.Op{Kind: impl.OpUnlock, Path: []byte("/")}, []byte{9, 0, 1, '/', 0, 0}},
	}
	for _, w := range written {
		wantBytes(t, told(w.op), impl.EncodeOp(w.op), w.b)
		wantOp(t, told(w.op), w.b, w.op)
	}
}

func TestOpsOfEveryKind(t *testing.T) {
	for _, r := range opRows {
		for _, op := range []impl.Op{r.bare(), r.ordinary()} {
			what := fmt.Sprintf("kind %d", r.kind)
			if r.journaled {
				wantWritten(t, what, op)
			} else {
				wantNotWritten(t, what, op)
			}
		}
	}
}

func TestOpsWithFieldsThatTheirKindHasNot(t *testing.T) {
	fields := []struct {
		letter string
		name   string
		set    func(op *impl.Op)
	}{
		{"S", "Session", func(op *impl.Op) { op.Session = 1 }},
		{"S", "great Session", func(op *impl.Op) { op.Session = 1 << 63 }},
		{"P", "Path", func(op *impl.Op) { op.Path = []byte("/a") }},
		{"P", "Path of a zero", func(op *impl.Op) { op.Path = []byte{0} }},
		{"V", "Value", func(op *impl.Op) { op.Value = []byte("x") }},
		{"V", "Value of a zero", func(op *impl.Op) { op.Value = []byte{0} }},
		{"Q", "Epoch", func(op *impl.Op) { op.Epoch = 1 }},
		{"Q", "great Epoch", func(op *impl.Op) { op.Epoch = 1 << 63 }},
		{"Q", "Gen", func(op *impl.Op) { op.Gen = 1 }},
		{"Q", "great Gen", func(op *impl.Op) { op.Gen = 1 << 63 }},
		{"Q", "both", func(op *impl.Op) { op.Epoch, op.Gen = 1, 1 }},
	}
	for _, r := range opRows {
		for _, f := range fields {
			for _, op := range []impl.Op{r.bare(), r.ordinary()} {
				f.set(&op)
				what := fmt.Sprintf("kind %d with %s", r.kind, f.name)
				if r.journaled && r.has(f.letter) {
					wantWritten(t, what, op)
				} else {
					wantNotWritten(t, what, op)
				}
			}
		}
	}
}

func TestOpFlags(t *testing.T) {
	flags := []int{-1, 0, 1, 2, 3, 4, 127, 128, 255, 256, 257, 258, 1 << 32, 1<<32 + 1, -255, -256, math.MaxInt, math.MinInt}
	for _, r := range opRows {
		for _, flag := range flags {
			op := r.ordinary()
			op.Flag = flag
			what := fmt.Sprintf("kind %d, flag %d", r.kind, flag)
			if r.journaled && slices.Contains(r.flags, flag) {
				wantWritten(t, what, op)
			} else {
				wantNotWritten(t, what, op)
			}
		}
	}
}

func TestOpValueSizes(t *testing.T) {
	for _, r := range opRows {
		for _, n := range []int{1, impl.MaxValue - 1, impl.MaxValue, impl.MaxValue + 1, 127, 128, 256, 256 + 1, 1000} {
			op := r.ordinary()
			op.Value = someBytes(n)
			what := fmt.Sprintf("kind %d, a value of %d bytes", r.kind, n)
			if r.journaled && r.has("V") && n <= impl.MaxValue {
				wantWritten(t, what, op)
			} else {
				wantNotWritten(t, what, op)
			}
		}
	}
}

func TestOpsTakeAnyPathAndSession(t *testing.T) {
	paths := textsOf("", "/", "//", "/a/", "no path", "/A", "\x00", "\xff\xfe", "/"+strings.Repeat("n", 17))
	for _, n := range []int{127, 128, 129, 255, 256, 257, 16383, 16384, 16385, 100000} {
		paths = append(paths, someBytes(n))
	}
	for _, r := range opRows {
		op := r.ordinary()
		if !r.journaled {
			continue
		}
		for _, p := range paths {
			if op.Path = p; r.has("P") {
				wantWritten(t, fmt.Sprintf("kind %d, a path of %d bytes", r.kind, len(p)), op)
			}
		}
		for _, n := range greatNumbers() {
			if op = r.ordinary(); r.has("S") {
				op.Session = n
				wantWritten(t, fmt.Sprintf("kind %d, session %d", r.kind, n), op)
			}
		}
	}
}

func TestOpsOfNoKind(t *testing.T) {
	kinds := []int{0, -1, -2, 14, 15, 16, 127, 128, 255, 256, 256 + 1, 256 + 8, -255, 1 << 32, 1<<32 + 1, math.MaxInt, math.MinInt}
	for _, kind := range kinds {
		for _, r := range opRows {
			for _, op := range []impl.Op{r.bare(), r.ordinary()} {
				op.Kind = kind
				wantNotWritten(t, fmt.Sprintf("kind %d as %d", kind, r.kind), op)
			}
		}
	}
	wantNotWritten(t, "the zero request", impl.Op{})
}

// Of the bytes of a request, no other kind may be read than what its row allows.
func TestDecodeOpGoesByTheTable(t *testing.T) {
	for _, from := range opRows {
		for kind := range 256 {
			op := from.ordinary()
			op.Kind, op.Epoch, op.Gen = kind, 0, 0
			if kind < 1 || kind > 13 {
				wantNoOp(t, fmt.Sprintf("kind %d", kind), opBytes(op))
				continue
			}
			r := opRows[kind-1]
			fits := r.journaled && (r.has("S") || op.Session == 0) && (r.has("P") || len(op.Path) == 0) && (r.has("V") || len(op.Value) == 0) && slices.Contains(r.flags, op.Flag)
			if fits {
				wantOp(t, fmt.Sprintf("kind %d as %d", from.kind, kind), opBytes(op), op)
			} else {
				wantNoOp(t, fmt.Sprintf("kind %d as %d", from.kind, kind), opBytes(op))
			}
		}
	}
}

// An empty list is the same as nil.
func TestEmptyListsInOps(t *testing.T) {
	for _, r := range opRows {
		op := r.bare()
		want := impl.EncodeOp(op)
		op.Path, op.Value = []byte{}, []byte{}
		wantBytes(t, fmt.Sprintf("kind %d", r.kind), impl.EncodeOp(op), want)
	}
}
