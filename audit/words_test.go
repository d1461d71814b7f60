package audit_test

import (
	"crypto/sha256"
	"encoding/hex"
	"errors"
	"fmt"
	"regexp"
	"slices"
	"strconv"
	"strings"

	"pawl/agree"
	"pawl/api"
	"pawl/content"
	"pawl/curve"
	"pawl/envelope"
	"pawl/lab"
	"pawl/session"
)

// What the chapter says, done a second way: where Check plays with marks, real sessions are asked here what must come, with keys that in a plain run are alike just where the marks are.

// must holds what the layers below have promised.
func must(ok bool) {
	if !ok {
		panic("a layer below answers what it must not")
	}
}

func sumOf(text string) []byte {
	sum := sha256.Sum256([]byte(text))
	return sum[:]
}

func pairOf(text string) api.Pair {
	p, why := curve.Pair(sumOf(text))
	must(why == api.OK)
	return p
}

func unhex(word string) []byte {
	if word == "-" {
		return nil
	}
	b, err := hex.DecodeString(word)
	must(err == nil)
	return b
}

func tohex(b []byte) string {
	if len(b) == 0 {
		return "-"
	}
	return hex.EncodeToString(b)
}

func num(word string) int {
	n, err := strconv.Atoi(word)
	must(err == nil)
	return n
}

// table is what the sessions of a script have come to: the two, what was sent (nil: nobody knows it), what is kept under names.
type table struct {
	sides map[string]*session.Session
	extra []byte
	sent  [][]byte
	by    []string // who sent it
	names map[string][]byte
}

// beginning is what two begin with, laid down; beginnings are those that were reckoned already.
type beginning struct{ alice, bob, extra []byte }

var beginnings = map[string]beginning{}

func (l *table) begin(a []string) {
	words := strings.Join(a, " ")
	if _, is := beginnings[words]; !is {
		beginnings[words] = beginningOf(a)
	}
	x := beginnings[words]
	alice, err := session.Import(x.alice)
	must(err == nil)
	bob, err := session.Import(x.bob)
	must(err == nil)
	l.extra, l.names = x.extra, map[string][]byte{}
	l.sides = map[string]*session.Session{"alice": alice, "bob": bob}
}

func beginningOf(a []string) beginning {
	who := func(name string) api.Pair { return pairOf(a[3] + "/" + name) }
	c := api.Config{Version: num(a[0]), Skip: num(a[1]), Store: num(a[2])}
	bundle := agree.Offer(who("bob"), who("signed"), who("once"), a[4] == "once")
	one, why := agree.Start(who("alice"), who("fresh"), bundle)
	must(why == api.OK)
	alice, err := session.Alice(one.Shared[:], one.HeaderA[:], one.HeaderB[:], bundle.Signed[:], c)
	must(err == nil)
	bob, err := session.Bob(one.Shared[:], one.HeaderA[:], one.HeaderB[:], sumOf(a[3]+"/signed"), c)
	must(err == nil)
	return beginning{alice.Export(), bob.Export(), one.Extra}
}

// numbers are the part and the reason of an error.
func numbers(err error) string {
	w, is := err.(*api.Wrap)
	must(is)
	var why api.Errno
	must(errors.As(w, &why))
	return fmt.Sprintf("refused %d %d", w.Part, int(why))
}

// plainOf is what a command sends.
func plainOf(c api.Command) []byte {
	if c.Word == "bytes" {
		return unhex(c.Args[2])
	}
	said, _, why := content.Parse(c.Args[2])
	must(why == api.OK)
	b, err := content.Encode(said)
	must(err == nil)
	return b
}

func (l *table) send(c api.Command) string {
	b, err := l.sides[c.Args[0]].Send(plainOf(c), l.extra, sumOf(c.Args[1]))
	if err != nil {
		return numbers(err)
	}
	l.sent, l.by = append(l.sent, b), append(l.by, c.Args[0])
	return fmt.Sprintf("sent %d %d", len(l.sent), len(b))
}

func (l *table) receive(name string, b, extra []byte) string {
	h, err := l.sides[name].Receive(b, extra)
	if err != nil {
		return fmt.Sprintf("%s %d %d", numbers(err), h.Work.Trials, h.Work.Steps)
	}
	c, err := content.Decode(h.Plain)
	if err != nil {
		return fmt.Sprintf("bytes %d %d %s", h.Work.Trials, h.Work.Steps, tohex(h.Plain))
	}
	line, why := content.Print(c)
	must(why == api.OK)
	return fmt.Sprintf("heard %d %d %s", h.Work.Trials, h.Work.Steps, line)
}

// network is what comes of an envelope on its way, and the extra with which it is handed on.
func (l *table) network(c api.Command) (b, extra []byte) {
	b, extra = slices.Clone(l.sent[num(c.Args[0])-1]), slices.Clone(l.extra)
	switch c.Word {
	case "turn":
		at := num(c.Args[1]) % (8 * len(b))
		b[at>>3] ^= 1 << (at & 7)
	case "cut":
		b = b[:min(len(b), num(c.Args[1]))]
	case "join":
		b = append(b, unhex(c.Args[1])...)
	case "extra":
		extra = append(extra, unhex(c.Args[1])...)
	}
	return b, extra
}

func (l *table) goOn(name string, b []byte) string {
	s, err := session.Import(b)
	if err != nil {
		return numbers(err)
	}
	l.sides[name] = s
	return fmt.Sprintf("loaded %d", len(b))
}

// tell plays a command and answers what it tells.
func (l *table) tell(c api.Command) string {
	a := c.Args
	switch c.Word {
	case "begin":
		l.begin(a)
		number, why := agree.Safety(pairOf(a[3]+"/alice").Public, pairOf(a[3]+"/bob").Public, 8)
		must(why == api.OK)
		return "begun " + number
	case "send", "bytes":
		return l.send(c)
	case "give", "turn", "cut", "join", "extra":
		if num(a[0]) == 0 || num(a[0]) > len(l.sent) {
			return "missing"
		}
		b, extra := l.network(c)
		return l.receive(a[len(a)-1], b, extra)
	case "forge":
		return l.receive(a[1], unhex(a[0]), l.extra)
	case "forget":
		return fmt.Sprintf("forgot %d", l.sides[a[0]].Forget(num(a[1])))
	case "export":
		b := l.sides[a[0]].Export()
		return fmt.Sprintf("export %d %x", len(b), sha256.Sum256(b))
	case "save":
		l.names[a[1]] = l.sides[a[0]].Export()
		return fmt.Sprintf("saved %d", len(l.names[a[1]]))
	case "load":
		b, is := l.names[a[1]]
		if !is {
			return "missing"
		}
		return l.goOn(a[0], b)
	case "import":
		return l.goOn(a[0], unhex(a[1]))
	}
	must(c.Word == "look")
	s := l.sides[a[0]].State()
	return fmt.Sprintf("look %d %d %d %d %d", s.SendN, s.Prev, s.RecvN, len(s.Spares), map[bool]int{true: 1}[s.Turn])
}

// The forms of answers, as chapter 16 gives them for each command: N stands for a number; what is found as C must be a content's line, the bytes of H none of a content.
var forms = map[string]string{
	"begin":  `begun( [0-9]{5}){12}`,
	"send":   `sent N N|refused N N`,
	"give":   `missing|refused N N N N|heard N N (?P<C>.*)|bytes N N (?P<H>-|([0-9a-f]{2})+)`,
	"forge":  `refused N N N N|heard N N (?P<C>.*)|bytes N N (?P<H>-|([0-9a-f]{2})+)`,
	"forget": `forgot N`,
	"export": `export N [0-9a-f]{64}`,
	"save":   `saved N`,
	"load":   `missing|loaded N`,
	"import": `loaded N|refused N N`,
	"look":   `look N N N N [01]`,
}

var likeForms = map[string]string{"bytes": "send", "turn": "give", "cut": "give", "join": "give", "extra": "give"}

var expressions = func() map[string]*regexp.Regexp {
	out := map[string]*regexp.Regexp{}
	for command, f := range forms {
		out[command] = regexp.MustCompile(`(?s)\A(` + strings.ReplaceAll(f, "N", "(0|[1-9][0-9]{0,9})") + `)\z`)
	}
	for command, like := range likeForms {
		out[command] = out[like]
	}
	return out
}()

// formed: rule 1 holds.
func formed(command, text string) bool {
	r := expressions[command]
	found := r.FindStringSubmatch(text)
	if found == nil {
		return false
	}
	if strings.HasPrefix(text, "heard") {
		_, _, why := content.Parse(found[r.SubexpIndex("C")])
		return why == api.OK
	}
	if strings.HasPrefix(text, "bytes") {
		_, err := content.Decode(unhex(found[r.SubexpIndex("H")]))
		return err != nil
	}
	return true
}

// auditor goes along a trace. A side that it does not know is nil at its table, and so are an envelope and what is kept under a name.
type auditor struct {
	table
	config api.Config
	sums   map[string]string // what was told of exports of those bytes
}

// rule is the first rule that an answer breaks, or 0; what follows of the answer is done.
func (x *auditor) rule(c api.Command, text string) int {
	if !formed(c.Word, text) {
		return 1
	}
	w := strings.Split(text, " ")
	a := c.Args
	switch c.Word {
	case "begin":
		x.begin(a)
		x.config, x.sums = api.Config{Version: num(a[0]), Skip: num(a[1]), Store: num(a[2])}, map[string]string{}
	case "send", "bytes":
		return x.post(c, w, text)
	case "give", "turn", "cut", "join", "extra", "forge":
		return x.hand(c, w, text)
	case "load":
		b, is := x.names[a[1]]
		if is == (text == "missing") {
			return 2
		}
		if !is {
			return 0
		}
		if b == nil {
			x.sides[a[0]] = nil
		} else if x.goOn(a[0], b) != text {
			return 7
		}
	case "import":
		if w[0] == "loaded" {
			x.sides[a[0]] = nil
		}
	default:
		return x.keep(c, w, text)
	}
	return 0
}

func (x *auditor) post(c api.Command, w []string, text string) int {
	by := x.sides[c.Args[0]]
	length, why := envelope.Length(x.config.Version, len(plainOf(c)))
	must(why == api.OK)
	if w[0] == "sent" && (num(w[1]) != len(x.sent)+1 || by != nil && num(w[2]) != length) {
		return 3
	}
	if by == nil {
		if w[0] == "sent" {
			x.sent = append(x.sent, nil)
		}
		return 0
	}
	if x.send(c) != text {
		return 5
	}
	return 0
}

func (x *auditor) hand(c api.Command, w []string, text string) int {
	a := c.Args
	var b, extra []byte // none, if it is not known what is handed on
	if c.Word != "forge" {
		is := num(a[0]) >= 1 && num(a[0]) <= len(x.sent)
		if is == (text == "missing") {
			return 2
		}
		if !is {
			return 0
		}
		if x.sent[num(a[0])-1] != nil {
			b, extra = x.network(c)
		}
	}
	name := a[len(a)-1]
	if x.sides[name] == nil {
		return 0
	}
	at := map[string]int{"heard": 1, "bytes": 1, "refused": 3}[w[0]]
	if num(w[at]) > x.config.Store+2 || num(w[at+1]) > 2*x.config.Skip+1 {
		return 4
	}
	if extra == nil {
		if w[0] != "refused" {
			x.sides[name] = nil
		}
		return 0
	}
	want := x.receive(name, b, extra)
	if strings.HasPrefix(want, "refused 2 ") && strings.HasPrefix(text, "refused 2 ") && strings.HasSuffix(text, " 0 0") {
		return 0
	}
	if text != want {
		return 6
	}
	return 0
}

func (x *auditor) keep(c api.Command, w []string, text string) int {
	if x.sides[c.Args[0]] == nil {
		if c.Word == "save" {
			x.names[c.Args[1]] = nil
		}
		return 0
	}
	want := x.tell(c)
	if c.Word != "export" {
		if text != want {
			return 7
		}
		return 0
	}
	if w[1] != strings.Split(want, " ")[1] {
		return 7
	}
	down := string(x.sides[c.Args[0]].Export())
	if sum, is := x.sums[down]; is && sum != w[2] {
		return 8
	}
	x.sums[down] = w[2]
	return 0
}

// checkByWords is what Check must answer.
func checkByWords(script, trace string) (int, int, api.Errno) {
	list, err := lab.Parse(script)
	if err != nil {
		return 0, 0, api.ErrScript
	}
	lines := strings.SplitAfter(trace, "\n")
	if lines[len(lines)-1] != "" || len(lines)-1 != len(list) {
		return 0, 0, api.ErrTrace
	}
	var answers []string
	for i, c := range list {
		begin := fmt.Sprintf("%d ", c.Line)
		if !strings.HasPrefix(lines[i], begin) {
			return 0, 0, api.ErrTrace
		}
		answers = append(answers, lines[i][len(begin):len(lines[i])-1])
	}
	var x auditor
	for i, c := range list {
		if rule := x.rule(c, answers[i]); rule != 0 {
			return rule, i + 1, api.OK
		}
	}
	return 0, 0, api.OK
}
