package tests

import (
	"fmt"
	"slices"
	"strings"
	"testing"

	"loop.example/s02132/impl"
)

var (
	done    = replyOf(impl.CodeOK)
	noForm  = replyOf(impl.CodeForm)
	lost    = replyOf(impl.CodeLost)
	pending = replyOf(impl.CodePending)
	full    = replyOf(impl.CodeFull)
	none    = replyOf(impl.CodeNone)
)

func TestScriptOfTheDocument(t *testing.T) {
	wantReplies(t, "open\ncreate 1 /a p hello\nflush\nlock 1 /a x\ncrash 0\nget /a\nflush\n",
		opened(1, 10), done, done, lost, returned(2, 1), impl.Reply{Data: []byte("hello")}, done)
}

func TestScriptLines(t *testing.T) {
	wantReplies(t, "")
	wantReplies(t, "\n", noForm)
	wantReplies(t, "\n\n\n", noForm, noForm, noForm)
	wantReplies(t, "flush", done)
	wantReplies(t, "flush\n", done)
	wantReplies(t, "flush\n\n", done, noForm)
	wantReplies(t, "\nflush", noForm, done)
	wantReplies(t, "flush\n ", done, noForm)
	wantReplies(t, " ", noForm)
	wantReplies(t, "  flush  \n\n   snap", done, noForm, done)
	wantReplies(t, "flush\r\nflush\r", noForm, noForm)
	wantReplies(t, "flush\rflush", noForm)
	wantReplies(t, "flush\x00\nflush\n\xff\xfe\n\u2028flush", noForm, done, noForm, noForm)
	wantReplies(t, "flush\u0085flush\vflush\fflush", noForm)
	wantReplies(t, strings.Repeat("x", 100000)+"\nflush", noForm, done)
	wantReplies(t, strings.Repeat(" ", 100000)+"flush", done)
}

func TestScriptsWithManyLines(t *testing.T) {
	for _, line := range []string{"flush", "", "zzz", "tick 0"} {
		reply := done
		if line == "" || line == "zzz" {
			reply = noForm
		}
		lines := strings.Repeat(line+"\n", 499)
		wantReplies(t, lines, times(499, reply)...)
		wantReplies(t, lines+line+"\n", times(500, reply)...)
		wantReplies(t, lines+"flush", append(times(499, reply), done)...)
		wantReplies(t, lines+line+"\nf", full)
		wantReplies(t, lines+line+"\n ", full)
		wantReplies(t, lines+line+"\n"+line+"\n", full)
		wantReplies(t, lines+lines, full)
	}
	wantReplies(t, strings.Repeat("\n", 1000000), full)
}

// What can wait in a script, each with its reply once it is answered.
func TestRepliesThatWait(t *testing.T) {
	lines := []string{"open", "create 1 /a e v", "get /a", "get /x", "keep 1", "keep 9", "lock 1 /a x", "set 1 /a " + strings.Repeat("v", 41), "check 1 /a 1 1", "sweep", "list /", "close 1", "get /a", "watch 1 /a"}
	replies := []impl.Reply{opened(1, 10), done, {Id: 1, Data: []byte("v")}, none, {Num: 10}, replyOf(impl.CodeSession), {Epoch: 1, Gen: 1}, noForm, {Num: 1}, done, {Names: textsOf("a")}, done, none, replyOf(impl.CodeSession)}
	for n := range len(lines) + 1 {
		text := strings.Join(lines[:n], "\n") + "\n"
		if n == 0 {
			text = ""
		}
		wantReplies(t, text, times(n, pending)...)
		wantReplies(t, text+"flush", append(slices.Clone(replies[:n]), done)...)
		wantReplies(t, text+"snap\n", append(slices.Clone(replies[:n]), done)...)
		wantReplies(t, text+"tick 3", append(times(n, pending), done)...)
		wantReplies(t, text+"zzz\n", append(times(n, pending), noForm)...)
		sessions := 0
		if n >= 1 && n < 12 {
			sessions = 1
		}
		wantReplies(t, text+"crash 1000000", append(times(n, lost), returned(2, sessions))...)
		wantReplies(t, text+"crash 0", append(times(n, lost), returned(2, 0))...)
		wantReplies(t, text+"snapcrash 5 0", append(times(n, lost), returned(2, sessions))...)
		wantReplies(t, text+"flush\ncrash 0", append(slices.Clone(replies[:n]), done, returned(2, sessions))...)
		wantReplies(t, text+"snap\ncrash 0", append(slices.Clone(replies[:n]), done, returned(2, sessions))...)
	}
}

// opensOf has the replies to so many opens.
func opensOf(n int) []impl.Reply {
	var out []impl.Reply
	for i := range n {
		out = append(out, opened(uint64(i+1), 10))
	}
	return out
}

// One less than MaxPending wait, and with MaxPending all are answered, and safe.
func TestAsManyAsMayWait(t *testing.T) {
	for n := range 36 {
		safe := n / 16 * 16
		text := strings.Repeat("open\n", n)
		wantReplies(t, text, append(opensOf(safe), times(n-safe, pending)...)...)
		wantReplies(t, text+"crash 0", append(opensOf(safe), append(times(n-safe, lost), returned(2, safe))...)...)
		wantReplies(t, text+"crash 1000000", append(opensOf(safe), append(times(n-safe, lost), returned(2, n))...)...)
		wantReplies(t, text+"flush", append(opensOf(n), done)...)
		wantReplies(t, text+"snap", append(opensOf(n), done)...)
		wantReplies(t, text+"tick 1", append(opensOf(safe), append(times(n-safe, pending), done)...)...)
	}
	// Those that change nothing wait like those that do, and a sweep does.
	for _, line := range []string{"get /x", "sweep", "keep 1"} {
		reply := impl.RunScript([]byte(line + "\nflush"))[0]
		wantReplies(t, strings.Repeat(line+"\n", 15), times(15, pending)...)
		wantReplies(t, strings.Repeat(line+"\n", 16), times(16, reply)...)
		wantReplies(t, strings.Repeat(line+"\n", 17), append(times(16, reply), pending)...)
		wantReplies(t, strings.Repeat(line+"\n", 15)+"open\ncrash 0", append(times(15, reply), opened(1, 10), returned(2, 1))...)
		wantReplies(t, "open\n"+strings.Repeat(line+"\n", 14)+"crash 0", append(times(15, lost), returned(2, 0))...)
	}
}

// Lines that don't wait are not counted among those that do, and don't answer
// them.
func TestLinesBetweenThoseThatWait(t *testing.T) {
	for line, reply := range map[string]impl.Reply{"zzz": noForm, "": noForm, "crash 1 9": noForm, "tick 1000001": noForm, "tick 0": done, "tick 3": done} {
		with := func(r impl.Reply) []impl.Reply {
			return slices.Repeat([]impl.Reply{r, reply}, 15)
		}
		text := strings.Repeat("get /x\n"+line+"\n", 15)
		wantReplies(t, text, with(pending)...)
		wantReplies(t, text+"crash 0", append(with(lost), returned(2, 0))...)
		wantReplies(t, text+"flush", append(with(none), done)...)
		wantReplies(t, text+"get /x", append(with(none), none)...)
		wantReplies(t, text+"get /x\ncrash 0", append(with(none), none, returned(2, 0))...)
	}
}

// A flush, a snap and a crash begin the counting anew.
func TestCountingOfThoseThatWaitBeginsAnew(t *testing.T) {
	some := strings.Repeat("get /x\n", 15)
	wantReplies(t, some+"flush\n"+some, slices.Concat(times(15, none), []impl.Reply{done}, times(15, pending))...)
	wantReplies(t, some+"snap\n"+some, slices.Concat(times(15, none), []impl.Reply{done}, times(15, pending))...)
	wantReplies(t, some+"crash 0\n"+some, slices.Concat(times(15, lost), []impl.Reply{returned(2, 0)}, times(15, pending))...)
	wantReplies(t, some+"snapcrash 1 0\n"+some, slices.Concat(times(15, lost), []impl.Reply{returned(2, 0)}, times(15, pending))...)
	wantReplies(t, some+"crash 0\n"+some+"get /x", slices.Concat(times(15, lost), []impl.Reply{returned(2, 0)}, times(16, none))...)
}

// Every keep: two opens of 19 bytes each wait behind one that is safe.
func TestCrashKeepsWholeRecords(t *testing.T) {
	for keep := range 60 {
		n := 1 + min(keep/19, 2)
		wantReplies(t, fmt.Sprintf("open\nflush\nopen\nopen\ncrash %d\nopen\nflush", keep),
			opened(1, 10), done, lost, lost, returned(2, n), opened(uint64(n+1), 10), done)
		for steps := range 5 {
			epoch := uint64(2)
			if steps == 4 {
				epoch = 3
			}
			wantReplies(t, fmt.Sprintf("open\nflush\nopen\nopen\ncrash %d %d\nopen\nflush", keep, steps),
				opened(1, 10), done, lost, lost, returned(epoch, n), opened(uint64(n+1), 10), done)
		}
		for steps := range 6 {
			left := n
			if steps >= 4 {
				left = 3
			}
			wantReplies(t, fmt.Sprintf("open\nflush\nopen\nopen\nsnapcrash %d %d\nopen\nflush", steps, keep),
				opened(1, 10), done, lost, lost, returned(2, left), opened(uint64(left+1), 10), done)
		}
	}
}

// What a crash has kept is safe from the next one, whichever way it came back.
func TestCrashAfterACrash(t *testing.T) {
	for _, crash := range []string{"crash 19", "crash 19 0", "crash 19 1", "crash 19 2", "crash 19 3", "crash 19 4", "snapcrash 3 19", "snapcrash 0 20"} {
		epoch := uint64(2)
		if crash == "crash 19 4" {
			epoch = 3
		}
		wantReplies(t, "open\nopen\n"+crash+"\ncrash 0\ncrash 0 4\nsnapcrash 4 0\nkeep 1\nkeep 2\nflush",
			lost, lost, returned(epoch, 1), returned(epoch+1, 1), returned(epoch+3, 1), returned(epoch+4, 1), impl.Reply{Num: 15}, replyOf(impl.CodeSession), done)
	}
}

// A snapshot that was cut is of no use later on, and does no harm.
func TestRequestsAfterACutSnap(t *testing.T) {
	for steps := range 6 {
		left := 1
		if steps >= 4 {
			left = 2
		}
		wantReplies(t, fmt.Sprintf("open\nflush\nopen\nsnapcrash %d 0\nopen\nflush\ncrash 0\nopen\ncrash 0", steps),
			opened(1, 10), done, lost, returned(2, left), opened(uint64(left+1), 10), done, returned(3, left+1), lost, returned(4, left+1))
	}
}

// Locks and ephemeral nodes go on through a crash, under their old sequencers;
// watches, events and what was not kept are gone.
func TestWhatACrashLeaves(t *testing.T) {
	wantReplies(t, "open\nopen\ncreate 1 /a p v\nlock 1 /a x\ncreate 2 /own e\nwatch 2 /a\nset 1 /a w\nwatch 1 /own\nflush\nset 1 /a lost\ncrash 5\n"+
		"get /a\nget /own\ncheck 1 /a 1 1\npoll 2\nclose 2\npoll 1\nunlock 1 /a\nlock 1 /a x\nlist /\nflush",
		opened(1, 10), opened(2, 10), done, impl.Reply{Epoch: 1, Gen: 1}, done, done, done, done, done, lost, returned(2, 2),
		impl.Reply{Data: []byte("w"), Num: exclusive, Epoch: 1, Gen: 1}, impl.Reply{Id: 2}, impl.Reply{Num: 1}, done, done, done, done, impl.Reply{Epoch: 2, Gen: 2}, impl.Reply{Names: textsOf("a")}, done)
}

// Session numbers and generations that a crash has lost are given again; nobody
// was answered them. The epoch tells the sequencers apart.
func TestNumbersThatWereLost(t *testing.T) {
	wantReplies(t, "open\ncreate 1 /a p\nflush\nopen\nlock 1 /a x\ncrash 0\nopen\nlock 2 /a x\nflush",
		opened(1, 10), done, done, lost, lost, returned(2, 1), opened(2, 10), impl.Reply{Epoch: 2, Gen: 1}, done)
}

func TestTimeGoesOnThroughACrash(t *testing.T) {
	for _, crash := range []string{"crash 0", "crash 0 0", "crash 0 3", "crash 0 4", "snapcrash 2 0", "snapcrash 5 0"} {
		epoch := uint64(2)
		if crash == "crash 0 4" {
			epoch = 3
		}
		wantReplies(t, "open\nflush\ntick 7\n"+crash+"\nopen\nkeep 1\ntick 6\nkeep 1\ntick 3\nsweep\nflush\ntick 7\nsweep\nflush",
			opened(1, 10), done, done, returned(epoch, 1), opened(2, 17), impl.Reply{Num: 22}, done, impl.Reply{Num: 23}, done, done, done, done, impl.Reply{Num: 2}, done)
		wantReplies(t, "tick 1000000\n"+crash+"\ntick 0\ntick 1\nopen\nflush", done, returned(epoch, 0), done, full, opened(1, 1000010), done)
	}
}

func TestTicks(t *testing.T) {
	wantReplies(t, "tick 999999\ntick 2\ntick 1\ntick 1\ntick 0\ntick 1000001", done, full, done, full, done, noForm)
	// One that is refused leaves the time as it was.
	wantReplies(t, "tick 999990\ntick 11\nopen\nflush\ntick 10\nsweep\nflush", done, full, opened(1, 1000000), done, done, impl.Reply{Num: 1}, done)
}

// A sweep waits, and a crash takes it back.
func TestSweepsInScripts(t *testing.T) {
	wantReplies(t, "sweep\nopen\nopen\ntick 9\nkeep 2\nsweep\ntick 1\nsweep\nkeep 1\nkeep 2\nsweep\nflush",
		done, opened(1, 10), opened(2, 10), done, impl.Reply{Num: 19}, done, done, impl.Reply{Num: 1}, replyOf(impl.CodeSession), impl.Reply{Num: 20}, done, done)
	wantReplies(t, "open\nopen\ncreate 1 /own e\nflush\ntick 10\nsweep\ncrash 18\nlist /\ntick 14\nsweep\ntick 1\nsweep\nlist /\nflush",
		opened(1, 10), opened(2, 10), done, done, done, lost, returned(2, 2), impl.Reply{Names: textsOf("own")}, done, done, done, impl.Reply{Num: 2}, done, done)
	wantReplies(t, "open\nopen\nflush\ntick 10\nsweep\ncrash 19\nkeep 1\nkeep 2\nflush",
		opened(1, 10), opened(2, 10), done, done, lost, returned(2, 1), replyOf(impl.CodeSession), impl.Reply{Num: 25}, done)
}

// fillLines are 65 lines of which the replies take 2 + 63 places and 3883 bytes.
func fillLines() (string, []impl.Reply) {
	text := "open\ncreate 1 /a p\n" + strings.Repeat("set 1 /a "+strings.Repeat("v", 40)+"\n", 63)
	return text, append([]impl.Reply{opened(1, 10)}, times(64, done)...)
}

// Promise 17: with the Log full, journaled kinds answer CodeFull and change
// nothing; the others go on, and faults of their own come first.
func TestFullLogInAScript(t *testing.T) {
	text, replies := fillLines()
	// 117 bytes are left: six opens take 114 of them.
	text += strings.Repeat("open\n", 6)
	for id := range uint64(6) {
		replies = append(replies, opened(id+2, 10))
	}
	probe := "open\nclose 1\ncreate 1 /b p\ndelete 1 /a\nset 1 /a w\nlock 1 /a x\nlock 1 /a s\nunlock 1 /a\nclose 99\nkeep 7\nkeep 8\nget /a\nget /b\nlist /\nwatch 1 /a\npoll 1\ncheck 1 /a 0 0\n"
	value := impl.Reply{Data: []byte(strings.Repeat("v", 40))}
	answers := []impl.Reply{full, full, full, full, full, full, full, replyOf(impl.CodeFree), replyOf(impl.CodeSession), {Num: 10}, replyOf(impl.CodeSession), value, none, {Names: textsOf("a")}, done, done, done}
	wantReplies(t, text+probe+"flush", slices.Concat(replies, answers, []impl.Reply{done})...)

	again := "open\nclose 1\ncreate 2 /b p\nset 2 /a w\nlock 2 /a x\nunlock 2 /a\ndelete 2 /a\nlist /\n"
	room := []impl.Reply{opened(8, 10), done, done, done, {Epoch: 1, Gen: 1}, done, done, {Names: textsOf("b")}}
	wantReplies(t, text+probe+"snap\n"+again+"flush\ncrash 0", slices.Concat(replies, answers, []impl.Reply{done}, room, []impl.Reply{done, returned(2, 7)})...)

	// A flush gives no room; a crash does, for the Start has made a snapshot.
	text += "flush\n"
	replies = append(replies, done)
	wantReplies(t, text+"open\nflush", append(slices.Clone(replies), full, done)...)
	for _, crash := range []string{"crash 0", "crash 0 2", "snapcrash 0 0", "snapcrash 4 0", "snapcrash 5 0"} {
		wantReplies(t, text+crash+"\nopen\nflush", append(slices.Clone(replies), returned(2, 7), opened(8, 10), done)...)
	}
}

// A sweep with too little room closes some, and says so.
func TestSweepWithAFullLogInAScript(t *testing.T) {
	for extra := range 7 {
		text, replies := fillLines()
		text += strings.Repeat("open\n", extra) + "tick 10\nsweep\nkeep 1\nkeep 2\nflush\nsnap\nsweep\nflush"
		for i := range extra {
			replies = append(replies, opened(uint64(i+2), 10))
		}
		closed := min(1+extra, 6-extra)
		swept := impl.Reply{Num: closed}
		if closed < 1+extra {
			swept.Code = impl.CodeFull
		}
		kept := func(id int) impl.Reply {
			if id <= closed || id > 1+extra {
				return replyOf(impl.CodeSession)
			}
			return impl.Reply{Num: 20}
		}
		left := 0
		for id := 3; id <= 1+extra; id++ {
			if id > closed {
				left++
			}
		}
		wantReplies(t, text, append(replies, done, swept, kept(1), kept(2), done, done, impl.Reply{Num: left}, done)...)
	}
}
