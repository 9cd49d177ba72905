package tests

import (
	"fmt"
	"math/rand"
	"regexp"
	"strconv"
	"strings"
	"testing"

	"loop.example/s02132/impl"
)

// parsed puts what ParseCommand answers into one value.
type parsed struct {
	Command impl.Command
	Code    int
}

func parse(line string) parsed {
	c, code := impl.ParseCommand([]byte(line))
	return parsed{c, code}
}

func wantCommand(t *testing.T, line string, c impl.Command) {
	t.Helper()
	want(t, fmt.Sprintf("%q", line), parse(line), parsed{Command: c})
}

func wantNoCommand(t *testing.T, line string) {
	t.Helper()
	want(t, fmt.Sprintf("%q", line), parse(line), parsed{Code: impl.CodeForm})
}

func cmdOp(op impl.Op) impl.Command {
	return impl.Command{Kind: impl.CmdOp, Op: op}
}

// goodLines has each row of the table of 6.4.
func goodLines() map[string]impl.Command {
	return map[string]impl.Command{
		"open":                  cmdOp(openOp),
		"keep 12":               cmdOp(ofSession(impl.OpKeep, 12)),
		"close 12":              cmdOp(ofSession(impl.OpClose, 12)),
		"poll 12":               cmdOp(ofSession(impl.OpPoll, 12)),
		"create 3 /a p":         cmdOp(createOf(3, "/a", 0, "")),
		"create 3 /a p v":       cmdOp(createOf(3, "/a", 0, "v")),
		"create 3 /a e":         cmdOp(createOf(3, "/a", 1, "")),
		"create 3 /a e v":       cmdOp(createOf(3, "/a", 1, "v")),
		"create 3 p p p":        cmdOp(createOf(3, "p", 0, "p")),
		"create 3 e p e":        cmdOp(createOf(3, "e", 0, "e")),
		"delete 3 /a":           cmdOp(onNode(impl.OpDelete, 3, "/a")),
		"unlock 3 /a":           cmdOp(onNode(impl.OpUnlock, 3, "/a")),
		"watch 3 /a":            cmdOp(onNode(impl.OpWatch, 3, "/a")),
		"get /a":                cmdOp(onPath(impl.OpGet, "/a")),
		"list /a":               cmdOp(onPath(impl.OpList, "/a")),
		"list /":                cmdOp(onPath(impl.OpList, "/")),
		"set 3 /a":              cmdOp(setOf(3, "/a", "")),
		"set 3 /a v":            cmdOp(setOf(3, "/a", "v")),
		"lock 3 /a x":           cmdOp(lockOf(3, "/a", exclusive)),
		"lock 3 /a s":           cmdOp(lockOf(3, "/a", shared)),
		"check 3 /a 4 5":        cmdOp(checkOf(3, "/a", 4, 5)),
		"tick 7":                {Kind: impl.CmdTick, N: 7},
		"sweep":                 {Kind: impl.CmdSweep},
		"flush":                 {Kind: impl.CmdFlush},
		"snap":                  {Kind: impl.CmdSnap},
		"crash 9":               {Kind: impl.CmdCrash, N: 9, M: 5},
		"crash 9 3":             {Kind: impl.CmdCrash, N: 9, M: 3},
		"snapcrash 2 9":         {Kind: impl.CmdSnapCrash, N: 2, M: 9},
		"keep 0":                cmdOp(ofSession(impl.OpKeep, 0)),
		"check 0 / 0 0":         cmdOp(checkOf(0, "/", 0, 0)),
		"tick 0":                {Kind: impl.CmdTick},
		"crash 0":               {Kind: impl.CmdCrash, M: 5},
		"crash 0 0":             {Kind: impl.CmdCrash},
		"snapcrash 0 0":         {Kind: impl.CmdSnapCrash},
		"get open":              cmdOp(onPath(impl.OpGet, "open")),
		"set 1 get S":           cmdOp(setOf(1, "get", "S")),
		"get P":                 cmdOp(onPath(impl.OpGet, "P")),
		"set 1 \t\r\n\x00 \v":   cmdOp(setOf(1, "\t\r\n\x00", "\v")),
		"set 1 \xff\xfe \xa0":   cmdOp(setOf(1, "\xff\xfe", "\xa0")),
		"get \u00a0\u2003":      cmdOp(onPath(impl.OpGet, "\u00a0\u2003")),
		"get \xc0\xa0":          cmdOp(onPath(impl.OpGet, "\xc0\xa0")),
		"set 1 P " + longWord(): cmdOp(setOf(1, "P", longWord())),
	}
}

// longWord has far more than MaxValue bytes.
func longWord() string {
	return strings.Repeat("long", 300)
}

func TestParseEachRow(t *testing.T) {
	for line, c := range goodLines() {
		wantCommand(t, line, c)
	}
}

func TestParseWithSpaces(t *testing.T) {
	for line, c := range goodLines() {
		wantCommand(t, " "+line, c)
		wantCommand(t, line+" ", c)
		wantCommand(t, "     "+line+"   ", c)
		wantCommand(t, strings.ReplaceAll(line, " ", "   "), c)
		wantCommand(t, "  "+strings.ReplaceAll(line, " ", strings.Repeat(" ", 100))+"  ", c)
	}
}

// A word more or less makes another form, or none; so does a name in other
// letters, or with something at it.
func TestParseOfWrongLines(t *testing.T) {
	lines := []string{"", " ", "      ", "\x00", "\n", "\t", "\xff\xfe\xfd", "?", "/a", "1", "S", "N", "OPEN", "Open", "open\n", "open\r", "open\t", "\topen", "opens", "ope",
		"open,", "o pen", "\xefopen", "open\x00", "help", "crashes 1", "snap 1", "snapcrash", "snapcrash 1", "crash", "keep", "keep\t1", "get", "get /a /b", "lock 1 /a", "lock 1 /a X",
		"lock 1 /a p", "lock 1 /a e", "lock 1 /a xs", "lock 1 /a 1", "lock 1 /a x x", "create 1 /a", "create 1 /a x", "create 1 /a s v", "create 1 /a P", "create 1 /a pe", "create 1 /a v p",
		"create 1 /a p v w", "create p", "set 1", "set 1 /a v w", "check 1 /a 1", "check 1 /a", "check 1 /a 1 1 1", "check /a 1 1", "close", "delete 1", "delete /a 1", "tick", "tick 1 1",
		"sweep 1", "flush 1", "flush flush", "open open", "open\x00", "poll 1 1", "list", "list / /", "watch 1", "unlock 1", "unlock 1 /a x"}
	for _, line := range lines {
		wantNoCommand(t, line)
	}
	for line := range goodLines() {
		name, rest, _ := strings.Cut(line, " ")
		for _, other := range []string{strings.ToUpper(name), name + "s", name[:len(name)-1], name[1:], name + "\t", "x" + name, name + "1", strings.ToUpper(name[:1]) + name[1:]} {
			wantNoCommand(t, other+" "+rest)
		}
		wantNoCommand(t, "x "+line)
		wantNoCommand(t, line+" w w w w")
		if rest != "" {
			wantNoCommand(t, name)
			wantNoCommand(t, rest+" "+name)
		}
	}
}

// numberPlaces has lines with a place for a number, the greatest that may stand
// there, and what is read.
func numberPlaces() []struct {
	line  string
	most  uint64
	reads func(n uint64) impl.Command
} {
	const many, now = impl.MaxCounter, impl.MaxNow
	type c = impl.Command
	return []struct {
		line  string
		most  uint64
		reads func(n uint64) impl.Command
	}{
		{"keep #", many, func(n uint64) c { return cmdOp(ofSession(impl.OpKeep, n)) }},
		{"close #", many, func(n uint64) c { return cmdOp(ofSession(impl.OpClose, n)) }},
		{"poll #", many, func(n uint64) c { return cmdOp(ofSession(impl.OpPoll, n)) }},
		{"create # /a p", many, func(n uint64) c { return cmdOp(createOf(n, "/a", 0, "")) }},
		{"create # /a p v", many, func(n uint64) c { return cmdOp(createOf(n, "/a", 0, "v")) }},
		{"create # /a e", many, func(n uint64) c { return cmdOp(createOf(n, "/a", 1, "")) }},
		{"create # /a e v", many, func(n uint64) c { return cmdOp(createOf(n, "/a", 1, "v")) }},
		{"delete # /a", many, func(n uint64) c { return cmdOp(onNode(impl.OpDelete, n, "/a")) }},
		{"unlock # /a", many, func(n uint64) c { return cmdOp(onNode(impl.OpUnlock, n, "/a")) }},
		{"watch # /a", many, func(n uint64) c { return cmdOp(onNode(impl.OpWatch, n, "/a")) }},
		{"set # /a", many, func(n uint64) c { return cmdOp(setOf(n, "/a", "")) }},
		{"set # /a v", many, func(n uint64) c { return cmdOp(setOf(n, "/a", "v")) }},
		{"lock # /a x", many, func(n uint64) c { return cmdOp(lockOf(n, "/a", exclusive)) }},
		{"lock # /a s", many, func(n uint64) c { return cmdOp(lockOf(n, "/a", shared)) }},
		{"check # /a 2 3", many, func(n uint64) c { return cmdOp(checkOf(n, "/a", 2, 3)) }},
		{"check 1 /a # 3", many, func(n uint64) c { return cmdOp(checkOf(1, "/a", n, 3)) }},
		{"check 1 /a 2 #", many, func(n uint64) c { return cmdOp(checkOf(1, "/a", 2, n)) }},
		{"tick #", now, func(n uint64) c { return c{Kind: impl.CmdTick, N: int(n)} }},
		{"crash #", now, func(n uint64) c { return c{Kind: impl.CmdCrash, N: int(n), M: 5} }},
		{"crash # 4", now, func(n uint64) c { return c{Kind: impl.CmdCrash, N: int(n), M: 4} }},
		{"crash 7 #", 4, func(n uint64) c { return c{Kind: impl.CmdCrash, N: 7, M: int(n)} }},
		{"snapcrash # 7", 5, func(n uint64) c { return c{Kind: impl.CmdSnapCrash, N: int(n), M: 7} }},
		{"snapcrash 5 #", now, func(n uint64) c { return c{Kind: impl.CmdSnapCrash, N: 5, M: int(n)} }},
	}
}

func TestParseOfNumbers(t *testing.T) {
	for _, p := range numberPlaces() {
		at := func(number string) string { return strings.ReplaceAll(p.line, "#", number) }
		for _, n := range []uint64{0, 1, 3, 4, 5, 6, 9, 10, 999999, impl.MaxNow, impl.MaxNow + 1, 1 << 32, impl.MaxCounter - 1, impl.MaxCounter, impl.MaxCounter + 1, 1<<63 - 1, 1 << 63} {
			digits := strconv.FormatUint(n, 10)
			for _, number := range []string{digits, "0" + digits, strings.Repeat("0", max(0, 19-len(digits))) + digits} {
				if n <= p.most && len(number) <= 19 {
					wantCommand(t, at(number), p.reads(n))
				} else {
					wantNoCommand(t, at(number))
				}
			}
			wantNoCommand(t, at(strings.Repeat("0", 20-len(digits))+digits))
		}
		for _, number := range []string{"x", "-1", "+1", "-0", "1.0", "1e1", "0x1", "1_0", "1,0", "1x", "x1", "1\t", "1\x00", "\u0661", "\uff11", "\xb2", "''", "#",
			"9999999999999999999", "10000000000000000000", "18446744073709551615", "18446744073709551616", "18446744073709551617", strings.Repeat("9", 100), strings.Repeat("0", 20), strings.Repeat("0", 99) + "1"} {
			wantNoCommand(t, at(number))
		}
		// A crash can do without its second number.
		if !strings.HasPrefix(p.line, "crash") {
			wantNoCommand(t, at(""))
		}
	}
}

// lineForms reads by a form for each row; the numbers are held against their
// limits behind it.
var lineForms = func() []*regexp.Regexp {
	var out []*regexp.Regexp
	for _, row := range []string{
		"open", "keep S", "close S", "poll S", "create S P p", "create S P p V", "create S P e", "create S P e V", "delete S P", "unlock S P", "watch S P",
		"get P", "list P", "set S P", "set S P V", "lock S P x", "lock S P s", "check S P E G", "tick N", "sweep", "flush", "snap", "crash K", "crash K L", "snapcrash A K",
	} {
		row = strings.NewReplacer(" ", " +", "S", "(?P<S>[0-9]{1,19})", "P", "(?P<P>[^ ]+)", "V", "(?P<V>[^ ]+)", "E", "(?P<E>[0-9]{1,19})", "G", "(?P<G>[0-9]{1,19})",
			"N", "0*(?P<N>[0-9]{1,7})", "K", "0*(?P<N>[0-9]{1,7})", "L", "0*(?P<M>[0-4])", "A", "0*(?P<N>[0-5])").Replace(row)
		if strings.HasPrefix(row, "snapcrash") {
			row = strings.Replace(row, "0*(?P<N>[0-9]{1,7})", "0*(?P<M>[0-9]{1,7})", 1)
		}
		out = append(out, regexp.MustCompile(`\A *`+row+` *\z`))
	}
	return out
}()

// secondParse counts on lines with numbers of at most 19 digits.
func secondParse(line string) parsed {
	for _, form := range lineForms {
		m := form.FindStringSubmatch(line)
		if m == nil {
			continue
		}
		name := strings.Fields(line)[0]
		p, fits := parsed{}, true
		number := func(group string, most uint64) uint64 {
			i := form.SubexpIndex(group)
			if i < 0 {
				return 0
			}
			n, _ := strconv.ParseUint(m[i], 10, 64)
			fits = fits && n <= most
			return n
		}
		word := func(group string) []byte {
			if i := form.SubexpIndex(group); i >= 0 {
				return []byte(m[i])
			}
			return nil
		}
		c := &p.Command
		c.N, c.M = int(number("N", 1000000)), int(number("M", 1000000))
		c.Op = impl.Op{Session: number("S", 1<<62), Path: word("P"), Value: word("V"), Epoch: number("E", 1<<62), Gen: number("G", 1<<62)}
		kinds := []string{"", "open", "keep", "close", "create", "delete", "get", "set", "lock", "unlock", "check", "watch", "poll", "list"}
		for kind, n := range kinds {
			if n == name {
				c.Op.Kind = kind
			}
		}
		for kind, n := range []string{"", "tick", "sweep", "flush", "snap", "crash", "snapcrash"} {
			if n == name {
				c.Kind = kind
			}
		}
		if name == "crash" && form.SubexpIndex("M") < 0 {
			c.M = 5
		}
		if text := form.String(); strings.Contains(text, "+e") || strings.Contains(text, "+x") {
			c.Op.Flag = 1
		} else if strings.HasSuffix(text, "+s *\\z") {
			c.Op.Flag = 2
		}
		if fits {
			return p
		}
	}
	return parsed{Code: impl.CodeForm}
}

// Lines by chance, most of which are near to being read.
func TestParseAsOfTheSecond(t *testing.T) {
	r := rand.New(rand.NewSource(25))
	var good []string
	for line := range goodLines() {
		if len(line) < 100 {
			good = append(good, line)
		}
	}
	for line, c := range goodLines() {
		if told(secondParse(line)) != told(parsed{Command: c}) {
			t.Fatalf("the test itself is wrong: %q: %s", line, told(secondParse(line)))
		}
	}
	words := []string{"open", "keep", "close", "poll", "create", "delete", "unlock", "watch", "get", "list", "set", "lock", "check", "tick", "sweep", "flush", "snap", "crash", "snapcrash",
		"0", "1", "4", "5", "6", "1000000", "1000001", "4611686018427387904", "4611686018427387905", "p", "e", "x", "s", "/a", "v", "\t", "", "\xff", "0000000000000000005"}
	read := 0
	for range 60000 {
		var line string
		switch r.Intn(3) {
		case 0:
			for range r.Intn(7) {
				line += pick(r, words...) + pick(r, " ", " ", " ", "  ", "")
			}
		case 1:
			fields := strings.Fields(pick(r, good...))
			fields[r.Intn(len(fields))] = pick(r, words...)
			line = strings.Join(fields, " ")
		default:
			b := []byte(pick(r, good...))
			changeByChance(r, &b)
			line = string(b)
		}
		p := secondParse(line)
		want(t, fmt.Sprintf("%q", line), parse(line), p)
		if p.Code == impl.CodeOK {
			read++
		}
		if t.Failed() {
			return
		}
	}
	if read < 10000 || read > 50000 {
		t.Errorf("the test itself is too narrow: %d lines read", read)
	}
}
