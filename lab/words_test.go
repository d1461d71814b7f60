package lab_test

import (
	"crypto/sha256"
	"encoding/hex"
	"errors"
	"fmt"
	"regexp"
	"slices"
	"strconv"
	"strings"

	"pawl/agree"
	"pawl/api"
	"pawl/content"
	"pawl/curve"
	"pawl/session"
)

// What the chapter says, done as it is said: scripts are read by its table, traces are told by the calls of the layers below that its words name, and by nothing of this one.

const (
	mostScript = 262144
	mostLine   = 4000
	mostOps    = 400
)

// table is the chapter's table of commands, without what they do.
const table = `begin VERSION SKIP STORE SEED ONCE
send SIDE SEED CONTENT
bytes SIDE SEED HEX
give K SIDE
turn K BIT SIDE
cut K N SIDE
join K HEX SIDE
extra K HEX SIDE
forge HEX SIDE
forget SIDE N
export SIDE
save SIDE NAME
load SIDE NAME
import SIDE HEX
look SIDE`

// words are the kinds of words: how each one's words are made.
var words = map[string]*regexp.Regexp{
	"SIDE":    regexp.MustCompile(`\A(alice|bob)\z`),
	"VERSION": regexp.MustCompile(`\A[12]\z`),
	"ONCE":    regexp.MustCompile(`\A(once|none)\z`),
	"NAME":    regexp.MustCompile(`\A[a-z]{1,16}\z`),
	"K":       regexp.MustCompile(`\A(0|[1-9][0-9]{0,8})\z`),
	"BIT":     regexp.MustCompile(`\A(0|[1-9][0-9]{0,8})\z`),
	"N":       regexp.MustCompile(`\A(0|[1-9][0-9]{0,8})\z`),
	"SKIP":    regexp.MustCompile(`\A(0|[1-9][0-9]{0,2}|1000)\z`),
	"STORE":   regexp.MustCompile(`\A(0|[1-9][0-9]{0,2}|1[0-9]{3}|2000)\z`),
	"SEED":    regexp.MustCompile(`\A[a-z0-9-]{1,64}\z`),
	"HEX":     regexp.MustCompile(`\A(-|([0-9a-f]{2})+)\z`),
}

var noBlanks = regexp.MustCompile(`[^ ]+`)

// row is what the table wants of a command, itself first.
func row(command string) ([]string, bool) {
	for _, line := range strings.Split(table, "\n") {
		if l := strings.Fields(line); l[0] == command {
			return l, true
		}
	}
	return nil, false
}

// parseByWords is what Parse must answer.
func parseByWords(text string) ([]api.Command, *api.Fault) {
	if len(text) > mostScript {
		return nil, &api.Fault{Why: api.ErrLong}
	}
	lines := strings.Split(text, "\n")
	if lines[len(lines)-1] == "" {
		lines = lines[:len(lines)-1]
	}
	var all []api.Command
	for i, line := range lines {
		c, f := lineByWords(line, len(all))
		if f != nil {
			f.Line = i + 1
			return nil, f
		}
		if c != nil {
			c.Line = i + 1
			all = append(all, *c)
		}
	}
	return all, nil
}

// lineByWords is a line's command (nil, if it is none), or its fault.
func lineByWords(line string, ahead int) (*api.Command, *api.Fault) {
	if len(line) > mostLine {
		return nil, &api.Fault{At: mostLine, Why: api.ErrLong}
	}
	places := noBlanks.FindAllStringIndex(line, -1)
	if len(places) == 0 || line[places[0][0]] == '#' {
		return nil, nil
	}
	if ahead >= mostOps {
		return nil, &api.Fault{Why: api.ErrLong}
	}
	first := line[places[0][0]:places[0][1]]
	want, known := row(first)
	if !known || first == "begin" && ahead > 0 || first != "begin" && ahead == 0 {
		return nil, &api.Fault{At: places[0][0], Why: api.ErrScript}
	}
	c := &api.Command{Word: first}
	for i, kind := range want[1:] {
		if i+1 >= len(places) {
			return nil, &api.Fault{At: len(line), Why: api.ErrScript}
		}
		begin, end := places[i+1][0], places[i+1][1]
		if kind == "CONTENT" {
			if _, at, why := content.Parse(line[begin:]); why != api.OK {
				return nil, &api.Fault{At: begin + at, Why: why}
			}
			c.Args = append(c.Args, line[begin:])
			return c, nil
		}
		if !words[kind].MatchString(line[begin:end]) {
			return nil, &api.Fault{At: begin, Why: api.ErrScript}
		}
		c.Args = append(c.Args, line[begin:end])
	}
	if len(places) > len(want) {
		return nil, &api.Fault{At: places[len(want)][0], Why: api.ErrScript}
	}
	return c, nil
}

// labByWords is what a script has come to.
type labByWords struct {
	alice, bob *session.Session
	extra      []byte
	sent       [][]byte
	names      map[string][]byte
}

func sumOf(text string) []byte {
	sum := sha256.Sum256([]byte(text))
	return sum[:]
}

func pairOf(text string) api.Pair {
	p, why := curve.Pair(sumOf(text))
	must(why == api.OK)
	return p
}

// must holds what the layers below have promised.
func must(ok bool) {
	if !ok {
		panic("a layer below answers what it must not")
	}
}

func unhex(word string) []byte {
	if word == "-" {
		return nil
	}
	b, err := hex.DecodeString(word)
	must(err == nil)
	return b
}

func tohex(b []byte) string {
	if len(b) == 0 {
		return "-"
	}
	return hex.EncodeToString(b)
}

func num(word string) int {
	n, err := strconv.Atoi(word)
	must(err == nil)
	return n
}

// side is the place of a side.
func (l *labByWords) side(name string) **session.Session {
	if name == "alice" {
		return &l.alice
	}
	return &l.bob
}

// numbers are the part and the reason of an error.
func numbers(err error) string {
	w, is := err.(*api.Wrap)
	must(is)
	var why api.Errno
	must(errors.As(w, &why))
	return fmt.Sprintf("refused %d %d", w.Part, int(why))
}

func (l *labByWords) begin(a []string) string {
	who := func(name string) api.Pair { return pairOf(a[3] + "/" + name) }
	c := api.Config{Version: num(a[0]), Skip: num(a[1]), Store: num(a[2])}
	bundle, err := agree.Parse(agree.Pack(agree.Offer(who("bob"), who("signed"), who("once"), a[4] == "once")))
	must(err == nil)
	one, why := agree.Start(who("alice"), who("fresh"), bundle)
	must(why == api.OK)
	two, why := agree.Answer(who("bob"), who("signed"), who("once"), a[4] == "once", who("alice").Public, who("fresh").Public)
	must(why == api.OK)
	l.alice, err = session.Alice(one.Shared[:], one.HeaderA[:], one.HeaderB[:], bundle.Signed[:], c)
	must(err == nil)
	l.bob, err = session.Bob(two.Shared[:], two.HeaderA[:], two.HeaderB[:], sumOf(a[3]+"/signed"), c)
	must(err == nil)
	l.extra, l.names = slices.Clone(one.Extra), map[string][]byte{}
	number, why := agree.Safety(who("alice").Public, who("bob").Public, 8)
	must(why == api.OK)
	return "begun " + number
}

func (l *labByWords) send(name, seed string, plain []byte) string {
	b, err := (*l.side(name)).Send(plain, l.extra, sumOf(seed))
	if err != nil {
		return numbers(err)
	}
	l.sent = append(l.sent, b)
	return fmt.Sprintf("sent %d %d", len(l.sent), len(b))
}

func (l *labByWords) receive(name string, b, extra []byte) string {
	h, err := (*l.side(name)).Receive(b, extra)
	if err != nil {
		return fmt.Sprintf("%s %d %d", numbers(err), h.Work.Trials, h.Work.Steps)
	}
	c, err := content.Decode(h.Plain)
	if err != nil {
		return fmt.Sprintf("bytes %d %d %s", h.Work.Trials, h.Work.Steps, tohex(h.Plain))
	}
	line, why := content.Print(c)
	must(why == api.OK)
	return fmt.Sprintf("heard %d %d %s", h.Work.Trials, h.Work.Steps, line)
}

// network is what comes of an envelope on its way, and the extra with which it is handed on.
func (l *labByWords) network(command string, a []string) (b, extra []byte) {
	b, extra = slices.Clone(l.sent[num(a[0])-1]), slices.Clone(l.extra)
	switch command {
	case "turn":
		at := num(a[1])
		for at >= 8*len(b) {
			at -= (at / (8 * len(b))) * 8 * len(b)
		}
		b[at>>3] ^= []byte{1, 2, 4, 8, 16, 32, 64, 128}[at&7]
	case "cut":
		for len(b) > num(a[1]) {
			b = b[:len(b)-1]
		}
	case "join":
		b = append(b, unhex(a[1])...)
	case "extra":
		extra = append(extra, unhex(a[1])...)
	}
	return b, extra
}

func (l *labByWords) goOn(name string, b []byte) string {
	s, err := session.Import(b)
	if err != nil {
		return numbers(err)
	}
	*l.side(name) = s
	return fmt.Sprintf("loaded %d", len(b))
}

// tell plays a command and answers what it tells.
func (l *labByWords) tell(c api.Command) string {
	a := c.Args
	switch c.Word {
	case "begin":
		return l.begin(a)
	case "send":
		said, _, why := content.Parse(a[2])
		must(why == api.OK)
		plain, err := content.Encode(said)
		must(err == nil)
		return l.send(a[0], a[1], plain)
	case "bytes":
		return l.send(a[0], a[1], unhex(a[2]))
	case "give", "turn", "cut", "join", "extra":
		if num(a[0]) == 0 || num(a[0]) > len(l.sent) {
			return "missing"
		}
		b, extra := l.network(c.Word, a)
		return l.receive(a[len(a)-1], b, extra)
	case "forge":
		return l.receive(a[1], unhex(a[0]), l.extra)
	case "forget":
		return fmt.Sprintf("forgot %d", (*l.side(a[0])).Forget(num(a[1])))
	case "export":
		b := (*l.side(a[0])).Export()
		return fmt.Sprintf("export %d %x", len(b), sha256.Sum256(b))
	case "save":
		l.names[a[1]] = (*l.side(a[0])).Export()
		return fmt.Sprintf("saved %d", len(l.names[a[1]]))
	case "load":
		b, is := l.names[a[1]]
		if !is {
			return "missing"
		}
		return l.goOn(a[0], b)
	case "import":
		return l.goOn(a[0], unhex(a[1]))
	}
	must(c.Word == "look")
	s := (*l.side(a[0])).State()
	turn := map[bool]int{true: 1}[s.Turn]
	return fmt.Sprintf("look %d %d %d %d %d", s.SendN, s.Prev, s.RecvN, len(s.Spares), turn)
}

// traceByWords is the trace of a script's commands.
func traceByWords(list []api.Command) string {
	var l labByWords
	trace := ""
	for _, c := range list {
		trace += fmt.Sprintf("%d %s\n", c.Line, l.tell(c))
	}
	return trace
}
