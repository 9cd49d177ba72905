package tests

import (
	"fmt"
	"math/rand"
	"runtime"
	"slices"
	"strings"
	"sync"
	"testing"
	"time"

	"loop.example/s02132/impl"
)

// someHabits have scripts in which crashes are rare or frequent, the Log gets
// full, or much waits.
func someHabits() []habits {
	return []habits{
		{tick: 8, sweep: 5, flush: 6, snap: 3, crash: 3, snapcrash: 2, rubbish: 3},
		{tick: 3, sweep: 3, flush: 20, snap: 5, crash: 15, snapcrash: 10, rubbish: 1},
		{tick: 2, sweep: 1, flush: 1, change: 90},
		{tick: 1, flush: 2, snap: 1, crash: 1, change: 80},
		{tick: 1, sweep: 1, crash: 2, snapcrash: 2, change: 50},
		{tick: 20, sweep: 15, flush: 5, crash: 5},
		{tick: 5, sweep: 5, rubbish: 10, crash: 4, snapcrash: 4},
	}
}

// Promise 15, and all that 6.5 says: the replies are those of Apply over the
// requests that were not lost, by a model that has no disk.
func TestScriptsAsOfTheModel(t *testing.T) {
	r := rand.New(rand.NewSource(26))
	codes, back := map[int]int{}, 0
	for i := range 150 {
		x := newScript(r, pick(r, 20, 100, 300, 500), pick(r, someHabits()...))
		got := impl.RunScript([]byte(x.text))
		if len(got) != len(x.commands) {
			t.Fatalf("script %d: %d replies for %d lines", i, len(got), len(x.commands))
		}
		for j, reply := range x.m.replies {
			codes[reply.Code]++
			if told(got[j]) != told(reply) {
				lines := strings.Split(x.text, "\n")
				t.Fatalf("script %d, line %d of %q: %s, want %s", i, j, lines[:j+1], told(got[j]), told(reply))
			}
			if reply.Code == impl.CodeOK && reply.Epoch > 2 && reply.Gen == 0 {
				back++
			}
		}
	}
	for code := impl.CodeOK; code <= impl.CodePending; code++ {
		seldom := code == impl.CodeBad || code == impl.CodeCounter || code == impl.CodeCorrupt
		if (codes[code] == 0) != seldom {
			t.Errorf("the test itself is too narrow: code %d in %v", code, codes)
		}
	}
	if back < 100 {
		t.Errorf("the test itself is too narrow: %d returns", back)
	}
}

// crashLine is a crash of any sort.
func crashLine(r *rand.Rand) string {
	keep := pick(r, 0, 0, r.Intn(200), 1000000)
	switch r.Intn(3) {
	case 0:
		return fmt.Sprint("crash ", keep)
	case 1:
		return fmt.Sprint("crash ", keep, " ", r.Intn(5))
	}
	return fmt.Sprint("snapcrash ", r.Intn(6), " ", keep)
}

// Promise 15, by replies alone: after a crash every node is there that was
// answered, and of those that were lost the first some and no others.
func TestWhatWasAnsweredIsThere(t *testing.T) {
	r := rand.New(rand.NewSource(27))
	some, all, nothing := 0, 0, 0
	for i := range 60 {
		text := []string{"open", "flush"}
		n := 0
		for range 12 {
			for range r.Intn(16) {
				text = append(text, fmt.Sprintf("create 1 /n%03d p", n))
				n++
				if r.Intn(12) == 0 {
					text = append(text, pick(r, "flush", "snap", "zzz", "keep 1"))
				}
			}
			text = append(text, crashLine(r), "list /", "flush")
		}
		replies := impl.RunScript([]byte(strings.Join(text, "\n")))
		var there, asked []string
		for j, line := range text {
			fields := strings.Fields(line)
			switch {
			case fields[0] == "create" && replies[j].Code == impl.CodeOK:
				there = append(there, fields[2][1:])
			case fields[0] == "create" && replies[j].Code == impl.CodeLost:
				asked = append(asked, fields[2][1:])
			case fields[0] == "list":
				var names []string
				for _, name := range replies[j].Names {
					names = append(names, string(name))
				}
				if len(names) < len(there) || !slices.Equal(names, slices.Concat(there, asked)[:len(names)]) {
					t.Fatalf("script %d, line %d: there are %v, answered were %v, lost %v", i, j, names, there, asked)
				}
				switch kept := len(names) - len(there); {
				case len(asked) == 0:
				case kept == 0:
					nothing++
				case kept == len(asked):
					all++
				default:
					some++
				}
				there, asked = names, nil
			}
		}
	}
	if some < 50 || all < 50 || nothing < 50 {
		t.Errorf("the test itself is too narrow: %d, %d, %d", nothing, some, all)
	}
}

// Promise 16: sequencers that were answered strictly increase, and so do epochs.
func TestSequencersInScriptsIncrease(t *testing.T) {
	r := rand.New(rand.NewSource(28))
	locks, epochs := 0, map[uint64]bool{}
	for i := range 25 {
		x := newScript(r, 500, habits{tick: 1, flush: 10, snap: 2, crash: 4, snapcrash: 3, change: 70})
		last, epoch := [2]uint64{}, uint64(1)
		for j, reply := range impl.RunScript([]byte(x.text)) {
			c := x.commands[j]
			if c == nil || reply.Code != impl.CodeOK {
				continue
			}
			switch {
			case c.Kind == impl.CmdCrash || c.Kind == impl.CmdSnapCrash:
				if reply.Epoch <= epoch {
					t.Fatalf("script %d, line %d: epoch %d after %d", i, j, reply.Epoch, epoch)
				}
				epoch = reply.Epoch
			case c.Kind == impl.CmdOp && c.Op.Kind == impl.OpLock && c.Op.Flag == exclusive:
				now := [2]uint64{reply.Epoch, reply.Gen}
				if slices.Compare(now[:], last[:]) <= 0 || reply.Epoch != epoch {
					t.Fatalf("script %d, line %d: %v after %v in epoch %d", i, j, now, last, epoch)
				}
				last = now
				locks++
				epochs[reply.Epoch] = true
			}
		}
	}
	if locks < 300 || len(epochs) < 20 {
		t.Errorf("the test itself is too narrow: %d locks in %d epochs", locks, len(epochs))
	}
}

// leaseScript has sessions that are kept or not, sweeps, and polls that show who
// is still there.
func leaseScript(r *rand.Rand) []string {
	text := []string{"open", "open", "flush"}
	opens := 2
	for len(text) < 480 {
		switch r.Intn(12) {
		case 0, 1:
			text = append(text, "open")
			opens++
		case 2, 3, 4:
			text = append(text, fmt.Sprint("keep ", 1+max(0, opens-5)+r.Intn(6)))
		case 5, 6, 7:
			text = append(text, fmt.Sprint("tick ", r.Intn(5)))
		case 8:
			text = append(text, crashLine(r))
		case 9:
			text = append(text, pick(r, "flush", "snap"))
		default:
			text = append(text, "sweep", "flush")
			for id := max(1, opens-8); id <= opens; id++ {
				text = append(text, fmt.Sprint("poll ", id))
			}
			text = append(text, "flush")
		}
	}
	return text
}

// Promise 16, by replies alone: who is gone was not before its last answered
// deadline.
func TestSweepsInScriptsComeNotTooEarly(t *testing.T) {
	r := rand.New(rand.NewSource(29))
	gone, early := 0, 0
	for i := range 60 {
		text := leaseScript(r)
		now, deadlines := 0, map[uint64]int{}
		for j, reply := range impl.RunScript([]byte(strings.Join(text, "\n"))) {
			c, code := impl.ParseCommand([]byte(text[j]))
			if code != impl.CodeOK {
				t.Fatalf("the test itself is wrong: %q", text[j])
			}
			id := c.Op.Session
			switch {
			case c.Kind == impl.CmdTick && reply.Code == impl.CodeOK:
				now += c.N
			case c.Kind == impl.CmdOp && c.Op.Kind == impl.OpOpen && reply.Code == impl.CodeOK:
				deadlines[reply.Id] = reply.Num
			case c.Kind == impl.CmdOp && c.Op.Kind == impl.OpKeep && reply.Code == impl.CodeOK:
				if reply.Num < deadlines[id] || reply.Num < now+10 {
					t.Fatalf("script %d, line %d: the deadline of %d was %d, is %d at %d", i, j, id, deadlines[id], reply.Num, now)
				}
				deadlines[id] = reply.Num
			case c.Kind == impl.CmdOp && reply.Code == impl.CodeSession && deadlines[id] > 0:
				if now < deadlines[id] {
					t.Fatalf("script %d, line %d: %d is gone at %d, before %d", i, j, id, now, deadlines[id])
				}
				delete(deadlines, id)
				gone++
			case c.Kind == impl.CmdOp && c.Op.Kind == impl.OpPoll && reply.Code == impl.CodeOK && deadlines[id] > 0 && now < deadlines[id]:
				early++
			}
		}
	}
	if gone < 200 || early < 200 {
		t.Errorf("the test itself is too narrow: %d gone, %d there", gone, early)
	}
}

// Promise 17, over scripts that go on until the Log is full: by hand, a request
// that was answered CodeFull is done after a snap.
func TestRoomAgainAfterASnap(t *testing.T) {
	for size := range 41 {
		set := "set 1 /a"
		if size > 0 {
			set += " " + strings.Repeat("v", size)
		}
		fits := (4000 - 19 - 21) / (21 + size)
		text := "open\ncreate 1 /a p\n" + strings.Repeat(set+"\n", fits+1) + "get /a\nsnap\n" + set + "\nget /a\nflush\n"
		value := impl.Reply{Data: []byte(strings.Repeat("v", size))}
		wantReplies(t, text, slices.Concat([]impl.Reply{opened(1, 10), done}, times(fits, done), []impl.Reply{full, value, done, done, value, done})...)
	}
}

// What a script answers hangs on nothing but its text, however many run, and
// none leaves a goroutine behind.
func TestScriptsSideBySide(t *testing.T) {
	r := rand.New(rand.NewSource(30))
	x := newScript(r, 200, someHabits()[0])
	before := runtime.NumGoroutine()
	var group sync.WaitGroup
	answers := make([]string, 40)
	for i := range answers {
		group.Go(func() { answers[i] = told(impl.RunScript([]byte(x.text))) })
	}
	group.Wait()
	for i, answer := range answers {
		if answer != told(x.m.replies) {
			t.Errorf("run %d answers otherwise", i)
		}
	}
	for range 200 {
		impl.RunScript([]byte("open\nflush"))
		impl.RunScript([]byte(strings.Repeat("\n", 501)))
	}
	// The last ones may be on their way out still.
	for wait := 0; runtime.NumGoroutine() > before && wait < 100; wait++ {
		time.Sleep(10 * time.Millisecond)
	}
	if n := runtime.NumGoroutine(); n > before {
		t.Errorf("%d goroutines, and %d before", n, before)
	}
}

// Whatever the text, there is an answer: one reply for each line.
func TestScriptsOfAnyBytes(t *testing.T) {
	r := rand.New(rand.NewSource(31))
	for i := range 400 {
		x := newScript(r, pick(r, 0, 1, 5, 40), pick(r, someHabits()...))
		b := []byte(x.text)
		for range 1 + r.Intn(5) {
			changeByChance(r, &b)
		}
		if i%4 == 0 {
			b = someBytes(i * 5)
		}
		lines := strings.Split(string(b), "\n")
		if lines[len(lines)-1] == "" {
			lines = lines[:len(lines)-1]
		}
		m := newModel()
		for _, line := range lines {
			if c, code := impl.ParseCommand([]byte(line)); code == impl.CodeOK {
				m.do(&c)
			} else {
				m.do(nil)
			}
		}
		m.lose(impl.CodePending)
		want(t, fmt.Sprintf("text %d, %.200q", i, b), impl.RunScript(b), m.replies)
	}
}
