package tests

import (
	"bytes"
	"fmt"
	"math/rand"
	"strings"
	"testing"

	"loop.example/s02132/impl"
)

func replyOf(code int) impl.Reply {
	return impl.Reply{Code: code}
}

// opened is the reply to an open.
func opened(id uint64, deadline int) impl.Reply {
	return impl.Reply{Id: id, Num: deadline}
}

// returned is the reply to a crash.
func returned(epoch uint64, sessions int) impl.Reply {
	return impl.Reply{Epoch: epoch, Num: sessions}
}

func times[E any](n int, e E) []E {
	var out []E
	for range n {
		out = append(out, e)
	}
	return out
}

func wantReplies(t *testing.T, script string, replies ...impl.Reply) {
	t.Helper()
	got := impl.RunScript([]byte(script))
	if len(got) != len(replies) {
		t.Errorf("%.200q: %d replies, want %d: %.500s", script, len(got), len(replies), told(got))
		return
	}
	for i, r := range replies {
		want(t, fmt.Sprintf("%.200q, reply %d", script, i), got[i], r)
	}
}

// written is a record: how many bytes it takes, and the state after it.
type written struct {
	size  int
	after impl.State
}

// model is a second run of a script, with no disk: it has the state that is safe
// and those behind it, up to the one that would be lost last.
type model struct {
	state   impl.State
	safe    impl.State
	written []written
	used    int // bytes of the log
	replies []impl.Reply
	waiting []int
}

func newModel() *model {
	first := impl.State{Epoch: 1}
	return &model{state: first, safe: first}
}

func (m *model) allSafe() {
	m.safe, m.written, m.waiting = m.state, nil, nil
}

func (m *model) lose(code int) {
	for _, i := range m.waiting {
		m.replies[i] = replyOf(code)
	}
	m.waiting = nil
}

func (m *model) submit(op impl.Op) impl.Reply {
	after, reply := impl.Apply(m.state, op)
	if reply.Code == impl.CodeOK && opRows[op.Kind-1].journaled {
		size := frame + len(opBytes(op))
		if m.used+size > 4000 {
			return replyOf(impl.CodeFull)
		}
		m.used += size
		m.written = append(m.written, written{size, after})
	}
	m.state = after
	return reply
}

func (m *model) sweep() impl.Reply {
	ids := impl.Expired(m.state)
	for i, id := range ids {
		if r := m.submit(ofSession(impl.OpClose, id)); r.Code != impl.CodeOK {
			return impl.Reply{Code: r.Code, Num: i}
		}
	}
	return impl.Reply{Num: len(ids)}
}

// crash has a return more that counts if the first was cut behind its renaming.
func (m *model) crash(keep, steps int) impl.Reply {
	m.lose(impl.CodeLost)
	s := m.safe
	for _, w := range m.written {
		if keep < w.size {
			break
		}
		keep -= w.size
		s = w.after
	}
	s.Epoch++
	if steps == 4 {
		s.Epoch++
	}
	m.state, _ = impl.Regrace(s, m.state.Now)
	m.allSafe()
	m.used = 0
	return returned(s.Epoch, len(s.Sessions))
}

// do is one line; nil is one that is not read.
func (m *model) do(c *impl.Command) {
	m.replies = append(m.replies, impl.Reply{})
	reply := &m.replies[len(m.replies)-1]
	switch {
	case c == nil:
		*reply = replyOf(impl.CodeForm)
	case c.Kind == impl.CmdTick:
		m.state, reply.Code = impl.Advance(m.state, c.N)
	case c.Kind == impl.CmdFlush:
		m.allSafe()
	case c.Kind == impl.CmdSnap:
		m.allSafe()
		m.used = 0
	case c.Kind == impl.CmdCrash:
		*reply = m.crash(c.N, c.M)
	case c.Kind == impl.CmdSnapCrash:
		if c.N >= 4 {
			m.safe, m.written = m.state, nil
		}
		*reply = m.crash(c.M, 5)
	default:
		if c.Kind == impl.CmdSweep {
			*reply = m.sweep()
		} else {
			*reply = m.submit(c.Op)
		}
		if m.waiting = append(m.waiting, len(m.replies)-1); len(m.waiting) == 16 {
			m.allSafe()
		}
	}
}

func opLine(op impl.Op) string {
	letter := func(letters string) string { return " " + letters[op.Flag:op.Flag+1] }
	s, p, v := fmt.Sprint(" ", op.Session), " "+string(op.Path), ""
	if len(op.Value) > 0 {
		v = " " + string(op.Value)
	}
	switch op.Kind {
	case impl.OpOpen:
		return "open"
	case impl.OpKeep:
		return "keep" + s
	case impl.OpClose:
		return "close" + s
	case impl.OpCreate:
		return "create" + s + p + letter("pe") + v
	case impl.OpDelete:
		return "delete" + s + p
	case impl.OpGet:
		return "get" + p
	case impl.OpSet:
		return "set" + s + p + v
	case impl.OpLock:
		return "lock" + s + p + letter("?xs")
	case impl.OpUnlock:
		return "unlock" + s + p
	case impl.OpCheck:
		return "check" + s + p + fmt.Sprint(" ", op.Epoch, " ", op.Gen)
	case impl.OpWatch:
		return "watch" + s + p
	case impl.OpPoll:
		return "poll" + s
	}
	return "list" + p
}

func lineOf(c impl.Command) string {
	switch c.Kind {
	case impl.CmdTick:
		return fmt.Sprint("tick ", c.N)
	case impl.CmdSweep:
		return "sweep"
	case impl.CmdFlush:
		return "flush"
	case impl.CmdSnap:
		return "snap"
	case impl.CmdCrash:
		if c.M == 5 {
			return fmt.Sprint("crash ", c.N)
		}
		return fmt.Sprint("crash ", c.N, " ", c.M)
	case impl.CmdSnapCrash:
		return fmt.Sprint("snapcrash ", c.N, " ", c.M)
	}
	return opLine(c.Op)
}

// scriptOp is a request that a line can have.
func scriptOp(r *rand.Rand, s impl.State) impl.Op {
	for {
		op := randomOp(r, s)
		if len(op.Value) > 0 {
			op.Value = bytes.Repeat([]byte{'v'}, len(op.Value))
		}
		row := opRow{}
		if op.Kind >= 1 && op.Kind <= len(opRows) {
			row = opRows[op.Kind-1]
		}
		wordless := row.has("P") && (len(op.Path) == 0 || bytes.ContainsAny(op.Path, " \n"))
		long := op.Value
		op.Value = long[:min(len(long), impl.MaxValue)]
		if row.kind == 0 || wordless || !formed(op) || max(op.Session, op.Epoch, op.Gen) > impl.MaxCounter {
			continue
		}
		op.Value = long
		return op
	}
}

// habits say how often each thing is in a script by chance, in a hundred lines.
type habits struct {
	tick, sweep, flush, snap, crash, snapcrash, rubbish, change int
}

// changeOp is a request that changes something that lasts, if one is found.
func changeOp(r *rand.Rand, s impl.State) impl.Op {
	for range 100 {
		op := scriptOp(r, s)
		if op.Kind == impl.OpSet && len(op.Value) > 0 {
			op.Value = bytes.Repeat([]byte{'w'}, impl.MaxValue)
		}
		if _, reply := impl.Apply(s, op); reply.Code == impl.CodeOK && opRows[op.Kind-1].journaled {
			return op
		}
	}
	return openOp
}

func (h habits) command(r *rand.Rand, s impl.State) *impl.Command {
	choice := r.Intn(100)
	among := func(share int) bool {
		choice -= share
		return choice < 0
	}
	keep := func() int { return pick(r, 0, r.Intn(30), r.Intn(300), impl.MaxNow) }
	switch {
	case among(h.tick):
		return &impl.Command{Kind: impl.CmdTick, N: pick(r, 0, 1, 2, 3, 10, 15)}
	case among(h.sweep):
		return &impl.Command{Kind: impl.CmdSweep}
	case among(h.flush):
		return &impl.Command{Kind: impl.CmdFlush}
	case among(h.snap):
		return &impl.Command{Kind: impl.CmdSnap}
	case among(h.crash):
		return &impl.Command{Kind: impl.CmdCrash, N: keep(), M: r.Intn(6)}
	case among(h.snapcrash):
		return &impl.Command{Kind: impl.CmdSnapCrash, N: r.Intn(6), M: keep()}
	case among(h.rubbish):
		return nil
	case among(h.change):
		return &impl.Command{Op: changeOp(r, s)}
	case r.Intn(5) == 0:
		return &impl.Command{Op: ofSession(impl.OpKeep, randomSession(r, impl.State{Next: s.Next, Sessions: s.Sessions})%(1<<62))}
	}
	return &impl.Command{Op: scriptOp(r, s)}
}

// scriptByChance is a script with its commands, and what the model answers.
type scriptByChance struct {
	text     string
	commands []*impl.Command
	m        *model
}

func newScript(r *rand.Rand, lines int, h habits) scriptByChance {
	x := scriptByChance{m: newModel()}
	var text []string
	for range lines {
		c := h.command(r, x.m.state)
		x.m.do(c)
		x.commands = append(x.commands, c)
		if c == nil {
			text = append(text, pick(r, "", "  ", "zzz", "open 1", "crash 1 5", "tick -1", "snapcrash 6 0", "\xff", "OPEN"))
		} else {
			text = append(text, lineOf(*c))
		}
	}
	x.m.lose(impl.CodePending)
	x.text = strings.Join(text, "\n")
	return x
}
