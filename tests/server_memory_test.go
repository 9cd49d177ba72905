package tests

import (
	"fmt"
	"math/rand"
	"strings"
	"testing"

	"loop.example/s02132/impl"
)

// starting, snapping and submitting are the arguments of Start, Snap and Submit.
type starting struct {
	Disk       impl.Disk
	Now, Steps int
}

type snapping struct {
	Server impl.Server
	Steps  int
}

type submitting struct {
	Server impl.Server
	Op     impl.Op
}

func wantLoadApart(t *testing.T, what string, d impl.Disk) {
	t.Helper()
	wantApart(t, what+", load", d, func(d impl.Disk) any { return load(d) })
	for steps := -1; steps <= 6; steps++ {
		wantApart(t, fmt.Sprintf("%s, start with %d", what, steps), starting{d, 30, steps}, func(a starting) any { return start(a.Disk, a.Now, a.Steps) })
	}
	wantApart(t, what+", start at no time", starting{d, -1, 5}, func(a starting) any { return start(a.Disk, a.Now, a.Steps) })
}

func wantServerApart(t *testing.T, what string, v impl.Server) {
	t.Helper()
	for steps := -1; steps <= 6; steps++ {
		wantApart(t, fmt.Sprintf("%s, snap with %d", what, steps), snapping{v, steps}, func(a snapping) any { return snap(a.Server, a.Steps) })
	}
	wantApart(t, what+", sweep", v, func(v impl.Server) any { return sweep(v) })
	for _, r := range opRows {
		for _, op := range []impl.Op{unflawed(r), r.bare(), flawedBy(unflawed(r), formFlaws(r)[0])} {
			wantApart(t, fmt.Sprintf("%s, kind %d", what, op.Kind), submitting{v, op}, func(a submitting) any { return submit(a.Server, a.Op) })
		}
	}
}

func TestServersHaveOwnMemory(t *testing.T) {
	for i, v := range someServers() {
		what := fmt.Sprint("server ", i)
		wantLoadApart(t, what, v.Disk)
		wantServerApart(t, what, v)
		v.State.Now = impl.MaxNow
		wantApart(t, what+", a great sweep", v, func(v impl.Server) any { return sweep(v) })
	}
	wantServerApart(t, "no number left", serverOf(ordinaryState(), impl.MaxCounter))
}

func TestWrongServersHaveOwnMemory(t *testing.T) {
	for _, x := range wrongServers() {
		// The greatest files take long, and are not looked into.
		if len(x.v.Disk.Log.Data)+len(x.v.Disk.Snap.Data)+len(x.v.Disk.Temp.Data) > 10000 {
			continue
		}
		wantLoadApart(t, x.name, x.v.Disk)
		wantServerApart(t, x.name, x.v)
	}
}

// The lists of the arguments may share memory: the files of the disk, and the
// request with the state.
func TestServersOfSharedMemory(t *testing.T) {
	v := withLog(serverOf(ordinaryState(), 41), openOp)
	v.Disk.Temp = v.Disk.Snap
	v.Disk.Log.Data = v.Disk.Log.Data[:len(v.Disk.Log.Data):len(v.Disk.Log.Data)]
	op := impl.Op{Kind: impl.OpSet, Session: 1, Path: v.State.Nodes[0].Path, Value: v.State.Nodes[0].Path}
	before := told(v)
	after, reply := secondSubmit(v, op)
	answers := []any{load(v.Disk), start(v.Disk, 3, 0), start(v.Disk, 3, 3), start(v.Disk, 3, 5), snap(v, 0), snap(v, 2), snap(v, 4), submit(v, op), sweep(v)}
	want(t, "submit", answers[7], any(submitted{after, reply}))
	for i, answer := range answers {
		lists := memories(answer)
		for j, list := range lists {
			for _, other := range append(lists[j+1:], memories(v, op)...) {
				if overlap(list, other) {
					t.Errorf("answer %d: two lists share memory", i)
				}
			}
		}
	}
	if told(v) != before {
		t.Errorf("the server was %s, is %s", before, told(v))
	}
}

func TestLinesHaveOwnMemory(t *testing.T) {
	lines := []string{"", " ", "zzz", "create 1 /a p v w"}
	for line := range goodLines() {
		lines = append(lines, line, " "+strings.ReplaceAll(line, " ", "  "), line+" more")
	}
	for _, line := range lines {
		wantApart(t, fmt.Sprintf("%q", line), []byte(line), func(b []byte) any { return parse(string(b)) })
		wantApart(t, fmt.Sprintf("%q", line), []byte(line), func(b []byte) any {
			c, code := impl.ParseCommand(b)
			return parsed{c, code}
		})
	}
}

func TestScriptsHaveOwnMemory(t *testing.T) {
	r := rand.New(rand.NewSource(32))
	texts := []string{"", "\n", strings.Repeat("\n", 501), "open\ncreate 1 /a p v\nget /a\nget /a\nlist /\nlist /\nwatch 1 /a\nset 1 /a w\npoll 1\nflush\nget /a\ncrash 0\nget /a\nget /a\nlist /\nflush"}
	for range 60 {
		texts = append(texts, newScript(r, 100, pick(r, someHabits()...)).text)
	}
	for i, text := range texts {
		wantApart(t, fmt.Sprint("script ", i), []byte(text), func(b []byte) any { return impl.RunScript(b) })
	}
}
