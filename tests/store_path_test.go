package tests

import (
	"strings"
	"testing"

	"loop.example/s02132/impl"
)

func wantPath(t *testing.T, p string, want bool) {
	t.Helper()
	if got := impl.ValidPath([]byte(p)); got != want {
		t.Errorf("%q: %v, want %v", p, got, want)
	}
}

func TestPaths(t *testing.T) {
	for _, p := range []string{"/a", "/a/b-1", "/-", "/_", "/0", "/9/z", "/a/a/a", "/-/_/-_", "/lock/of-my_9"} {
		wantPath(t, p, true)
	}
	for _, p := range []string{"", "a", "a/b", "a/", "b-1", "A", " /a", "/a ", "/a b", "/a\n", "\n/a", "\\a", "/a\x00", "/..", "/.", "/a.b", "/é", "/\xff"} {
		wantPath(t, p, false)
	}
	if impl.ValidPath(nil) {
		t.Errorf("nil is taken")
	}
}

func TestPathsOfSlashes(t *testing.T) {
	for _, p := range []string{"/", "//", "///", "/a/", "/a//", "//a", "/a//b", "/a/b/", "/a/b//c", strings.Repeat("/", 8), strings.Repeat("/", 9)} {
		wantPath(t, p, false)
	}
}

func TestPathNameSizes(t *testing.T) {
	for n := range 40 {
		name := strings.Repeat("n", n)
		fits := 1 <= n && n <= impl.MaxName
		wantPath(t, "/"+name, fits)
		wantPath(t, "/a/"+name, fits)
		wantPath(t, "/"+name+"/a", fits)
		wantPath(t, "/a/"+name+"/b", fits)
	}
	wantPath(t, "/"+strings.Repeat("n", 256+1), false)
}

func TestPathDepths(t *testing.T) {
	for n := 1; n < 20; n++ {
		for _, name := range []string{"/a", "/" + strings.Repeat("x", impl.MaxName)} {
			p := strings.Repeat(name, n)
			wantPath(t, p, n <= impl.MaxDepth)
			wantPath(t, p+"/", false)
			wantPath(t, p[1:], false)
		}
	}
	wantPath(t, strings.Repeat("/a", 256+1), false)
	wantPath(t, strings.Repeat("/a", 100000), false)
}

func TestPathBytes(t *testing.T) {
	for c := range 256 {
		b := string([]byte{byte(c)})
		good := strings.Contains("abcdefghijklmnopqrstuvwxyz0123456789-_", b)
		for _, p := range []string{"/" + b, "/a" + b + "b", "/a/" + b + "c/d", "/" + b + "a", "/a" + b} {
			// A slash within a path makes two names of one.
			wantPath(t, p, good || p == "/a/b")
		}
		wantPath(t, b+"a", c == '/')
		wantPath(t, b, false)
	}
}
