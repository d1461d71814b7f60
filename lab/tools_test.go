package lab_test

import (
	"errors"
	"math/rand"
	"reflect"
	"strconv"
	"strings"
	"testing"

	"pawl/api"
	"pawl/lab"
)

// What several tests draw, make and hold against each other.

// sameCommands: nil and empty lists are alike.
func sameCommands(a, b []api.Command) bool {
	return len(a) == 0 && len(b) == 0 || reflect.DeepEqual(a, b)
}

// checkFault holds an error against a fault, nil against nil.
func checkFault(t *testing.T, what string, err error, want *api.Fault) {
	t.Helper()
	if want == nil {
		if err != nil {
			t.Fatalf("%s: %v, not nil", what, err)
		}
		return
	}
	f, ok := err.(*api.Fault)
	if !ok || f == nil || *f != *want || !errors.Is(err, want.Why) {
		t.Fatalf("%s: %v, not %v", what, err, want)
	}
}

// short is a text's beginning, for telling.
func short(text string) string { return strconv.Quote(text[:min(len(text), 300)]) }

// checkParse holds Parse against the words; it answers what they say.
func checkParse(t *testing.T, text string) ([]api.Command, *api.Fault) {
	t.Helper()
	want, f := parseByWords(text)
	got, err := lab.Parse(text)
	checkFault(t, "Parse of "+short(text), err, f)
	if !sameCommands(got, want) {
		t.Fatalf("Parse of %s: %v, not %v", short(text), got, want)
	}
	if f != nil && len(got) != 0 {
		t.Fatalf("Parse of %s: %v beside an error", short(text), got)
	}
	return want, f
}

// checkRun holds Parse and Run against the words; it answers the trace.
func checkRun(t *testing.T, text string) string {
	t.Helper()
	list, f := checkParse(t, text)
	want := traceByWords(list)
	got, err := lab.Run(text)
	checkFault(t, "Run of "+short(text), err, f)
	if got != want {
		t.Fatalf("Run of %s tells\n%s, not\n%s", short(text), got, want)
	}
	return got
}

// wrong: a text is refused, at that place.
func wrong(t *testing.T, text string, line, at int, why api.Errno) {
	t.Helper()
	want := &api.Fault{Line: line, At: at, Why: why}
	got, err := lab.Parse(text)
	checkFault(t, "Parse of "+short(text), err, want)
	trace, err := lab.Run(text)
	checkFault(t, "Run of "+short(text), err, want)
	if len(got) != 0 || trace != "" {
		t.Fatalf("%s: %v, %q beside an error", short(text), got, trace)
	}
	checkParse(t, text)
}

// right: a text is taken, with so many commands.
func right(t *testing.T, text string, commands int) []api.Command {
	t.Helper()
	got, err := lab.Parse(text)
	if err != nil || len(got) != commands {
		t.Fatalf("Parse of %s: %d commands, %v", short(text), len(got), err)
	}
	checkParse(t, text)
	return got
}

// script is lines, each with its line feed.
func script(lines ...string) string { return strings.Join(lines, "\n") + "\n" }

// told is what each line of a trace tells behind its number, in order; the numbers are those of the lines.
func told(t *testing.T, trace string) (numbers []int, answers []string) {
	t.Helper()
	if trace != "" && !strings.HasSuffix(trace, "\n") {
		t.Fatalf("a trace without a line feed at its end: %q", trace)
	}
	for _, line := range strings.Split(trace, "\n") {
		if line == "" {
			continue
		}
		number, answer, _ := strings.Cut(line, " ")
		n, err := strconv.Atoi(number)
		if err != nil || strconv.Itoa(n) != number {
			t.Fatalf("a line of a trace: %q", line)
		}
		numbers, answers = append(numbers, n), append(answers, answer)
	}
	if strings.Count(trace, "\n") != len(answers) {
		t.Fatalf("a trace with lines that tell nothing: %q", trace)
	}
	return numbers, answers
}

// plays runs a script in which each line is a command, and holds the last lines of its trace against what they must tell. It answers all of them.
func plays(t *testing.T, text string, want ...string) []string {
	t.Helper()
	numbers, answers := told(t, checkRun(t, text))
	for i, n := range numbers {
		if n != i+1 {
			t.Fatalf("the line %d of the trace has the number %d", i+1, n)
		}
	}
	if len(answers) < len(want) {
		t.Fatalf("the trace has %d lines", len(answers))
	}
	for i, w := range want {
		if got := answers[len(answers)-len(want)+i]; got != w {
			t.Fatalf("%s: of the last %d lines number %d tells %q, not %q", short(text), len(want), i+1, got, w)
		}
	}
	return answers
}

// drawer draws.
type drawer struct{ *rand.Rand }

func newDrawer(seed int64) drawer { return drawer{rand.New(rand.NewSource(seed))} }

func (d drawer) bytes(n int) []byte {
	b := make([]byte, n)
	d.Read(b)
	return b
}

func (d drawer) coin() bool { return d.Intn(2) == 0 }

func (d drawer) one(of ...string) string { return of[d.Intn(len(of))] }

// content is the line of a content.
func (d drawer) content() string {
	return d.one(
		`text "hi"`, `text ""`, `text "\u{e9}# \"a\\  b"`, `text "`+strings.Repeat("x", d.Intn(300))+`"`,
		"came 1", "read 3 300 4294967295", `place 404a400000000000 bfd0000000000000 "here"`,
		`react 4294967295 "+"`, "timer "+strconv.Itoa(d.Intn(31536001)), `file "a b" 1099511627776 `+strings.Repeat("0f", 32))
}

// seed is a word that gives a seed.
func (d drawer) seed() string {
	b := make([]byte, 1+d.Intn(64))
	for i := range b {
		b[i] = "abcdefghijklmnopqrstuvwxyz0123456789-"[d.Intn(37)]
	}
	return string(b)
}

// beginning is a line that says begin.
func (d drawer) beginning() string {
	return strings.Join([]string{"begin", d.one("1", "2"), d.one("0", "1", "2", "5", "1000"), d.one("0", "1", "3", "9", "2000"), d.seed(), d.one("once", "none")}, " ")
}

// envelope is the number of an envelope, mostly one of the last ones.
func (d drawer) envelope(l *labByWords) string {
	if d.Intn(12) == 0 {
		return strconv.Itoa(d.Intn(1000000000))
	}
	return strconv.Itoa(max(0, len(l.sent)-d.Intn(6)))
}

// number is one of any size.
func (d drawer) number() string { return strconv.Itoa(d.Intn(1 << (1 + d.Intn(29)))) }

// hex is a word of few bytes.
func (d drawer) hex() string { return tohex(d.bytes(d.Intn(1 + d.Intn(40)))) }

// bent is a list of bytes, in half of all cases with a bit turned.
func (d drawer) bent(b []byte) []byte {
	if len(b) > 0 && d.coin() {
		b = append([]byte(nil), b...)
		b[d.Intn(len(b))] ^= 1 << d.Intn(8)
	}
	return b
}

// command is a line that can stand behind what was played so far.
func (d drawer) command(l *labByWords) string {
	side := d.one("alice", "bob")
	k := d.envelope(l)
	switch d.Intn(24) {
	case 0, 1, 2, 3:
		return "send " + side + " " + d.seed() + " " + d.content()
	case 4, 5, 6:
		return "bytes " + side + " " + d.seed() + " " + d.hex()
	case 7, 8, 9, 10, 11, 12:
		return "give " + k + " " + side
	case 13:
		return "turn " + k + " " + d.number() + " " + side
	case 14:
		return "cut " + k + " " + strconv.Itoa(d.Intn(400)) + " " + side
	case 15:
		return "join " + k + " " + d.hex() + " " + side
	case 16:
		return "extra " + k + " " + d.hex() + " " + side
	case 17:
		if len(l.sent) == 0 || d.Intn(4) == 0 {
			return "forge " + d.hex() + " " + side
		}
		return "forge " + tohex(d.bent(l.sent[len(l.sent)-1])) + " " + side
	case 18:
		return "forget " + side + " " + strconv.Itoa(d.Intn(3))
	case 19:
		return "export " + side
	case 20:
		return "save " + side + " " + d.one("a", "b", "abcdefghijklmnop")
	case 21:
		return "load " + side + " " + d.one("a", "b", "abcdefghijklmnop", "none")
	case 22:
		b := (*l.side(d.one("alice", "bob"))).Export()
		if len(b) > 1900 {
			return "import " + side + " " + d.hex()
		}
		return "import " + side + " " + tohex(d.bent(b))
	}
	return "look " + side
}

// commandOf is the command of a line, which must be one.
func commandOf(line string, ahead int) api.Command {
	c, f := lineByWords(line, ahead)
	must(c != nil && f == nil)
	return *c
}

// script draws a script of so many lines, the first one of which says begin. Some are no command.
func (d drawer) script(lines int) []string {
	var l labByWords
	out := []string{d.beginning()}
	l.tell(commandOf(out[0], 0))
	for len(out) < lines {
		if d.Intn(8) == 0 {
			out = append(out, d.one("", "   ", "# no command", "  #look bob"))
			continue
		}
		line := d.command(&l)
		l.tell(commandOf(line, 1))
		out = append(out, line)
	}
	return out
}
