package tests

import (
	"bytes"
	"fmt"
	"reflect"
	"slices"
	"testing"
	"unsafe"

	"loop.example/s02132/impl"
)

// memoriesIn has the memory of every list in a value, with the room behind it.
func memoriesIn(v reflect.Value) [][]byte {
	var out [][]byte
	switch v.Kind() {
	case reflect.Struct:
		for i := range v.NumField() {
			out = append(out, memoriesIn(v.Field(i))...)
		}
	case reflect.Slice:
		if size := v.Cap() * int(v.Type().Elem().Size()); size > 0 {
			out = append(out, unsafe.Slice((*byte)(v.UnsafePointer()), size))
		}
		for i := range v.Len() {
			out = append(out, memoriesIn(v.Index(i))...)
		}
	}
	return out
}

func memories(values ...any) [][]byte {
	var out [][]byte
	for _, v := range values {
		out = append(out, memoriesIn(reflect.ValueOf(v))...)
	}
	return out
}

func overlap(a, b []byte) bool {
	startA, startB := uintptr(unsafe.Pointer(&a[0])), uintptr(unsafe.Pointer(&b[0]))
	return startA < startB+uintptr(len(b)) && startB < startA+uintptr(len(a))
}

// roomy gives every list in the value new memory with room behind it, where a
// careless append would write.
func roomy(v reflect.Value) {
	switch v.Kind() {
	case reflect.Struct:
		for i := range v.NumField() {
			roomy(v.Field(i))
		}
	case reflect.Slice:
		list := reflect.MakeSlice(v.Type(), v.Len(), v.Len()+20)
		reflect.Copy(list, v)
		for i := range list.Len() {
			roomy(list.Index(i))
		}
		v.Set(list)
	}
}

func roomyOf[E any](e E) E {
	roomy(reflect.ValueOf(&e).Elem())
	return e
}

// wantApart asks that the call writes into no argument, that its answer shares
// no memory with one, that the lists of the answer share none among them, and
// that it answers the same when all of them were written over.
func wantApart[A any](t *testing.T, what string, arg A, call func(A) any) {
	t.Helper()
	a := roomyOf(arg)
	args := memories(a)
	before := copiesOf(args)
	got := call(a)
	wantAsWere(t, what, args, before, -1)
	first := told(got)

	lists := memories(got)
	for i, list := range lists {
		for _, other := range slices.Concat(args, lists[i+1:]) {
			if overlap(list, other) {
				t.Errorf("%s: two lists share memory", what)
			}
		}
	}
	if again := call(roomyOf(arg)); told(again) != first {
		t.Errorf("%s: %s, and again %s", what, first, told(again))
	}
	for _, arg := range args {
		clear(arg)
	}
	if told(got) != first {
		t.Errorf("%s: %s, and with other arguments %s", what, first, told(got))
	}
}

// opAnswer and stateAnswer put what a decoder answers into one value.
type opAnswer struct {
	Op   impl.Op
	Code int
}

type stateAnswer struct {
	State impl.State
	Code  int
}

func opRead(b []byte) any {
	op, code := impl.DecodeOp(b)
	return opAnswer{op, code}
}

func stateRead(b []byte) any {
	s, code := impl.DecodeState(b)
	return stateAnswer{s, code}
}

func TestStoreCallsOverStatesHaveOwnMemory(t *testing.T) {
	states := append(someStates(), flatState(impl.MaxSessions, impl.MaxNodes), flatState(impl.MaxSessions+1, 3), treeOf("/b", "/a"), treeOf("/a", "/b/c"))
	owned := ordinaryState()
	owned.Nodes[0].Owner = 1
	for i, s := range append(states, owned) {
		wantApart(t, fmt.Sprint("ValidState ", i), s, func(s impl.State) any { return impl.ValidState(s) })
		wantApart(t, fmt.Sprint("EncodeState ", i), s, func(s impl.State) any { return impl.EncodeState(s) })
	}
}

func TestStoreCallsOverOpsHaveOwnMemory(t *testing.T) {
	for _, r := range opRows {
		for _, op := range []impl.Op{r.bare(), r.ordinary(), {Kind: r.kind, Path: []byte("/a"), Value: someBytes(50)}} {
			wantApart(t, fmt.Sprint("EncodeOp of kind ", r.kind), op, func(op impl.Op) any { return impl.EncodeOp(op) })
		}
	}
}

func TestStoreCallsOverBytesHaveOwnMemory(t *testing.T) {
	inputs := textsOf("", "/", "/a", "/a/b-1", "/A", "some bytes")
	for _, op := range journaledOps() {
		inputs = append(inputs, opBytes(op), opBytes(op)[1:], append(opBytes(op), 0))
	}
	for _, s := range someStates() {
		inputs = append(inputs, stateBytes(s), stateBytes(s)[1:], append(stateBytes(s), 0))
	}
	for _, b := range inputs {
		wantApart(t, "ValidPath", b, func(b []byte) any { return impl.ValidPath(b) })
		wantApart(t, "DecodeOp", b, opRead)
		wantApart(t, "DecodeState", b, stateRead)
	}
}

// The arguments themselves may share memory, as these lists do.
func TestStoreOverSharedMemory(t *testing.T) {
	one := []byte("/a")
	op := impl.Op{Kind: impl.OpCreate, Session: 1, Path: one, Value: one}
	wantWritten(t, "a path that is the value", op)
	ids := idsOf(1, 2, 3)
	s := flatState(3, 3)
	for i := range s.Nodes {
		s.Nodes[i].Mode, s.Nodes[i].Holders, s.Nodes[i].Watchers, s.Nodes[i].Value = impl.ModeShared, ids, ids[1:], s.Nodes[0].Path
	}
	before := bytes.Clone(stateBytes(s))
	wantValid(t, "holders that are the watchers", s, true)
	wantBytes(t, "the state after it", stateBytes(s), before)
}
