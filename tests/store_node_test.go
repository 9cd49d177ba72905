package tests

import (
	"fmt"
	"math"
	"slices"
	"strings"
	"testing"

	"loop.example/s02132/impl"
)

// treeOf has a node for each path, in this order.
func treeOf(paths ...string) impl.State {
	var s impl.State
	for _, p := range paths {
		s.Nodes = append(s.Nodes, impl.Node{Path: []byte(p)})
	}
	return s
}

func wantTree(t *testing.T, valid bool, paths ...string) {
	t.Helper()
	what := strings.Join(paths, " ")
	wantValid(t, what, treeOf(paths...), valid)
	wantRead(t, what+", as bytes", stateBytes(treeOf(paths...)))
}

func TestNodeOrder(t *testing.T) {
	wantTree(t, true, "/a", "/b", "/c")
	wantTree(t, true, "/a", "/a-b", "/a/b")
	wantTree(t, false, "/a", "/a/b", "/a-b")
	wantTree(t, true, "/a", "/a-", "/a-/x", "/a/x", "/a0", "/a0/x", "/a_", "/aa")
	wantTree(t, false, "/a", "/a/x", "/a0", "/a-")
	wantTree(t, true, "/a", "/aa", "/aaa")
	wantTree(t, false, "/aa", "/a")
	wantTree(t, false, "/a", "/a")
	wantTree(t, false, "/a", "/b", "/b")
	wantTree(t, false, "/b", "/a")
	wantTree(t, false, "/a", "/c", "/b")
	wantTree(t, false, "/a", "/b", "/a")
	wantTree(t, true, "/-", "/0", "/9", "/_", "/a", "/z")
	wantTree(t, false, "/_", "/9")
	wantTree(t, false, "/a", "/_")
	wantTree(t, false, "/a/b", "/a")
}

func TestNodeParents(t *testing.T) {
	wantTree(t, false, "/a/b")
	wantTree(t, false, "/a", "/a-b/c")
	wantTree(t, false, "/a", "/b/c")
	wantTree(t, false, "/a", "/a/b/c")
	wantTree(t, false, "/a", "/aa/b")
	wantTree(t, true, "/a", "/a/b", "/a/b/c")
	wantTree(t, false, "/a", "/a/b", "/a/b/c/d")
	names := slices.Repeat([]string{"/n"}, impl.MaxDepth+1)
	var paths []string
	for n := range impl.MaxDepth {
		paths = append(paths, strings.Join(names[:n+1], ""))
	}
	wantTree(t, true, paths...)
	wantTree(t, false, append(slices.Clone(paths), strings.Join(names, ""))...)
	for gap := range impl.MaxDepth - 1 {
		wantTree(t, false, slices.Delete(slices.Clone(paths), gap, gap+1)...)
	}
}

func TestNodePaths(t *testing.T) {
	wantTree(t, true, "/"+strings.Repeat("n", impl.MaxName))
	for _, p := range []string{"", "/", "a", "//", "/a/", "/A", "/" + strings.Repeat("n", impl.MaxName+1), "/a b", "/\x00"} {
		wantTree(t, false, p)
	}
	wantTree(t, false, "", "/a")
	wantTree(t, false, "/", "/a")
	wantTree(t, false, "/a", "/a/", "/a//b")
}

func TestNodeOwners(t *testing.T) {
	wantChanges(t, []change{
		{"an owner that is a session", func(s *impl.State) { s.Nodes[4].Owner = 130 }, true},
		{"an owner that is none", func(s *impl.State) { s.Nodes[4].Owner = 2 }, false},
		{"an owner next to one", func(s *impl.State) { s.Nodes[4].Owner = 129 }, false},
		{"an owner above Next", func(s *impl.State) { s.Nodes[4].Owner = 301 }, false},
		{"the greatest owner", func(s *impl.State) { s.Nodes[4].Owner = math.MaxUint64 }, false},
		{"a parent with an owner", func(s *impl.State) { s.Nodes[2].Owner = 1 }, false},
		{"a parent with the same owner", func(s *impl.State) { s.Nodes[2].Owner = 300 }, false},
		{"the parent of a parent with an owner", func(s *impl.State) { s.Nodes[0].Owner = 1 }, false},
		{"a neighbour with an owner", func(s *impl.State) { s.Nodes[1].Owner = 1 }, true},
		{"all leaves with an owner", func(s *impl.State) { s.Nodes[1].Owner, s.Nodes[3].Owner, s.Nodes[4].Owner = 1, 1, 1 }, true},
	})
}

func TestNodeModes(t *testing.T) {
	holders := [][]uint64{nil, {}, {1}, {130}, {1, 130}, {1, 300}, {1, 130, 300}}
	sequencers := [][2]uint64{{0, 0}, {0, 1}, {1, 0}, {3, 0}, {1, 1}, {3, 500}, {3, 501}, {4, 500}, {4, 1}, {2, 501}, {0, 500}, {math.MaxUint64, 1}, {1, math.MaxUint64}}
	for _, mode := range []int{-1, 0, 1, 2, 3, 4, 256, 256 + 1, 256 + 2, math.MaxInt, math.MinInt} {
		for _, held := range holders {
			for _, q := range sequencers {
				s := ordinaryState()
				s.Nodes[0].Mode, s.Nodes[0].Holders, s.Nodes[0].Epoch, s.Nodes[0].Gen = mode, held, q[0], q[1]
				none := q == [2]uint64{0, 0}
				given := q[0] <= 3 && 1 <= q[1] && q[1] <= 500
				n := len(held)
				valid := mode == impl.ModeFree && n == 0 && none || mode == impl.ModeExclusive && n == 1 && given || mode == impl.ModeShared && n >= 1 && none
				what := fmt.Sprintf("mode %d, holders %v, sequencer %v", mode, held, q)
				wantValid(t, what, s, valid)
				if 0 <= mode && mode < 256 {
					wantRead(t, what+", as bytes", stateBytes(s))
				}
			}
		}
	}
}

func TestNodeSequencersGoByTheState(t *testing.T) {
	wantChanges(t, []change{
		{"Gen of the state as great", func(s *impl.State) { s.Gen = 500 }, true},
		{"Gen of the state less", func(s *impl.State) { s.Gen = 499 }, false},
		{"Gen of the state 0", func(s *impl.State) { s.Gen = 0 }, false},
		{"Epoch of the state greater", func(s *impl.State) { s.Epoch = 4 }, true},
		{"Epoch of the state less", func(s *impl.State) { s.Epoch = 2 }, false},
		{"Epoch of the state 0", func(s *impl.State) { s.Epoch = 0 }, false},
		{"two nodes with one sequencer", func(s *impl.State) { s.Nodes[1].Epoch, s.Nodes[1].Gen = 3, 500 }, true},
		{"the greatest that may be", func(s *impl.State) {
			s.Epoch, s.Gen = impl.MaxCounter, impl.MaxCounter
			s.Nodes[1].Epoch, s.Nodes[1].Gen = impl.MaxCounter, impl.MaxCounter
		}, true},
	})
}

// The lists that holders and watchers may be, and those that they may not.
func TestNodeHoldersAndWatchers(t *testing.T) {
	lists := []struct {
		ids   []uint64
		valid bool
	}{
		{idsOf(1), true}, {idsOf(1, 130), true}, {idsOf(1, 130, 300), true}, {idsOf(130, 300), true},
		{idsOf(0), false}, {idsOf(2), false}, {idsOf(129), false}, {idsOf(301), false}, {idsOf(math.MaxUint64), false},
		{idsOf(0, 1), false}, {idsOf(1, 2), false}, {idsOf(1, 131, 300), false}, {idsOf(1, 130, 301), false},
		{idsOf(1, 1), false}, {idsOf(1, 130, 130), false}, {idsOf(130, 1), false}, {idsOf(1, 300, 130), false}, {idsOf(300, 130, 1), false},
		{idsOf(130, 300, 1), false}, {idsOf(1, 130, 300, 1), false},
	}
	for _, l := range lists {
		for i := range 5 {
			s := ordinaryState()
			s.Nodes[i].Mode, s.Nodes[i].Holders, s.Nodes[i].Epoch, s.Nodes[i].Gen = impl.ModeShared, l.ids, 0, 0
			wantValid(t, fmt.Sprint("holders ", l.ids), s, l.valid)
			wantRead(t, fmt.Sprint("holders ", l.ids, ", as bytes"), stateBytes(s))
			s = ordinaryState()
			s.Nodes[i].Watchers = l.ids
			wantValid(t, fmt.Sprint("watchers ", l.ids), s, l.valid)
		}
	}
	for _, id := range []uint64{0, 2, 301, math.MaxUint64} {
		s := ordinaryState()
		s.Nodes[1].Holders = idsOf(id)
		wantValid(t, fmt.Sprint("the holder ", id), s, false)
		wantNoState(t, fmt.Sprint("the holder ", id, ", as bytes"), stateBytes(s))
	}
}
