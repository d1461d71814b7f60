package audit_test

import (
	"fmt"
	"math/rand"
	"slices"
	"strconv"
	"strings"
	"testing"

	"pawl/api"
	"pawl/audit"
	"pawl/lab"
)

// What several tests draw, make and hold against each other.

// script is lines, each with its line feed.
func script(lines ...string) string { return strings.Join(lines, "\n") + "\n" }

// played is the answers of the scripts that were played already.
var played = map[string][]string{}

// runs is the answers of a script's trace, without the lines' numbers.
func runs(t *testing.T, text string) []string {
	t.Helper()
	if answers, is := played[text]; is {
		return slices.Clone(answers)
	}
	trace, err := lab.Run(text)
	if err != nil {
		t.Fatalf("%v of %q", err, text)
	}
	var answers []string
	for _, line := range strings.Split(strings.TrimSuffix(trace, "\n"), "\n") {
		_, answer, _ := strings.Cut(line, " ")
		answers = append(answers, answer)
	}
	played[text] = slices.Clone(answers)
	return answers
}

// traceOf is the trace of a script with those answers.
func traceOf(t *testing.T, text string, answers []string) string {
	t.Helper()
	list, err := lab.Parse(text)
	if err != nil || len(list) != len(answers) {
		t.Fatalf("%v: %d commands, %d answers", err, len(list), len(answers))
	}
	var trace strings.Builder
	for i, c := range list {
		fmt.Fprintf(&trace, "%d %s\n", c.Line, answers[i])
	}
	return trace.String()
}

// checks holds Check against what it must answer.
func checks(t *testing.T, text, trace string, rule, at int, why api.Errno) {
	t.Helper()
	r, l, e := audit.Check(text, trace)
	if r != rule || l != at || e != why {
		t.Fatalf("Check answers %d, %d, %v, not %d, %d, %v, of the script\n%s\nand the trace\n%s", r, l, e, rule, at, why, text, trace)
	}
}

// agrees holds Check against the words; it answers the rule and the line.
func agrees(t *testing.T, text, trace string) (int, int) {
	t.Helper()
	rule, at, why := checkByWords(text, trace)
	checks(t, text, trace, rule, at, why)
	return rule, at
}

// judged: with these answers, a script breaks that rule at that line; and so say the words.
func judged(t *testing.T, text string, answers []string, rule, at int) {
	t.Helper()
	trace := traceOf(t, text, answers)
	checks(t, text, trace, rule, at, api.OK)
	agrees(t, text, trace)
}

// right: with these answers a script breaks no rule.
func right(t *testing.T, text string, answers []string) {
	t.Helper()
	judged(t, text, answers, 0, 0)
}

// other is answers with another one at a line (from 1 on).
func other(answers []string, line int, answer string) []string {
	out := slices.Clone(answers)
	out[line-1] = answer
	return out
}

// drawer draws.
type drawer struct{ *rand.Rand }

func newDrawer(seed int64) drawer { return drawer{rand.New(rand.NewSource(seed))} }

func (d drawer) bytes(n int) []byte {
	b := make([]byte, n)
	d.Read(b)
	return b
}

func (d drawer) coin() bool { return d.Intn(2) == 0 }

func (d drawer) one(of ...string) string { return of[d.Intn(len(of))] }

// content is the line of a content.
func (d drawer) content() string {
	return d.one(
		`text "hi"`, `text ""`, `text "\u{e9}# \"a\\  b"`, `text "`+strings.Repeat("x", d.Intn(300))+`"`,
		"came 1", "read 3 300 4294967295", `place 404a400000000000 bfd0000000000000 "here"`,
		`react 4294967295 "+"`, "timer "+strconv.Itoa(d.Intn(31536001)), `file "a b" 1099511627776 `+strings.Repeat("0f", 32))
}

// seed is one of few words that give seeds, so that some come again.
func (d drawer) seed() string { return d.one("a", "b", "c", "s", "x-1", strings.Repeat("z", 64)) }

// beginning is a line that says begin.
func (d drawer) beginning() string {
	return strings.Join([]string{"begin", d.one("1", "2"), d.one("0", "1", "2", "5", "1000"), d.one("0", "1", "3", "9", "2000"), d.seed(), d.one("once", "none")}, " ")
}

// envelope is the number of an envelope, mostly one of the last ones.
func (d drawer) envelope(l *table) string {
	if d.Intn(20) == 0 {
		return strconv.Itoa(d.Intn(1000000000))
	}
	return strconv.Itoa(max(0, len(l.sent)-d.Intn(7)))
}

// number is one of any size.
func (d drawer) number() string { return strconv.Itoa(d.Intn(1 << (1 + d.Intn(29)))) }

// hex is a word of few bytes; some are a content's.
func (d drawer) hex() string {
	if d.Intn(6) == 0 {
		return d.one("080112026869", "-", "0805107b", "0801120168")
	}
	return tohex(d.bytes(d.Intn(1 + d.Intn(90))))
}

// bent is a list of bytes, in a third of all cases with a bit turned.
func (d drawer) bent(b []byte) []byte {
	if len(b) > 0 && d.Intn(3) == 0 {
		b = slices.Clone(b)
		b[d.Intn(len(b))] ^= 1 << d.Intn(8)
	}
	return b
}

// command is a line that can stand behind what was played so far. Without loss no side becomes unknown.
func (d drawer) command(l *table, loss bool) string {
	side := d.one("alice", "bob")
	k := d.envelope(l)
	if n := num(k); n >= 1 && n <= len(l.by) && d.Intn(8) > 0 { // mostly it goes to the one for whom it is meant
		side = map[string]string{"alice": "bob", "bob": "alice"}[l.by[n-1]]
	}
	switch d.Intn(28) {
	case 0, 1, 2, 3:
		return "send " + side + " " + d.seed() + " " + d.content()
	case 4, 5, 6:
		return "bytes " + side + " " + d.seed() + " " + d.hex()
	case 7, 8, 9, 10, 11, 12, 13, 14:
		return "give " + k + " " + side
	case 15:
		return "turn " + k + " " + d.number() + " " + side
	case 16:
		return "cut " + k + " " + strconv.Itoa(d.Intn(400)) + " " + side
	case 17:
		return "join " + k + " " + d.one("-", d.hex()) + " " + side
	case 18:
		return "extra " + k + " " + d.one("-", d.hex()) + " " + side
	case 19:
		if len(l.sent) == 0 || !loss {
			return "forge " + d.hex() + " " + side
		}
		return "forge " + tohex(d.bent(l.sent[len(l.sent)-1])) + " " + side
	case 20:
		return "forget " + side + " " + strconv.Itoa(d.Intn(3))
	case 21, 22, 23:
		return "export " + side
	case 24:
		return "save " + side + " " + d.one("a", "b", "abcdefghijklmnop")
	case 25:
		return "load " + side + " " + d.one("a", "b", "abcdefghijklmnop", "none")
	case 26:
		b := l.sides[d.one("alice", "bob")].Export()
		if len(b) > 1900 || !loss {
			return "import " + side + " " + d.hex()
		}
		return "import " + side + " " + tohex(d.bent(b))
	}
	return "look " + side
}

// script draws a script of so many lines, the first one of which says begin. Some are no command. It answers what the sessions tell, too.
func (d drawer) script(lines int, loss bool) (string, []string) {
	var l table
	out := []string{d.beginning()}
	play := func() string {
		list, err := lab.Parse(script(out[0], out[len(out)-1]))
		if len(out) == 1 {
			list, err = lab.Parse(out[0])
		}
		must(err == nil)
		return l.tell(list[len(list)-1])
	}
	answers := []string{play()}
	for range 2 * d.Intn(2) {
		out = append(out, d.one("send alice a timer 5", "give 1 bob"))
		answers = append(answers, play())
	}
	for len(out) < lines {
		if d.Intn(12) == 0 {
			out = append(out, d.one("", "   ", "# no command", "  #look bob"))
			continue
		}
		out = append(out, d.command(&l, loss))
		answers = append(answers, play())
	}
	return script(out...), answers
}
