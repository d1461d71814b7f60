package lab_test

import (
	"bytes"
	"fmt"
	"slices"
	"strconv"
	"strings"
	"testing"

	"pawl/api"
	"pawl/content"
	"pawl/envelope"
	"pawl/session"
)

// P16.2: what each command tells, line by line. Whatever is played here is held against the words too.

// Example 1.
func TestBegun(t *testing.T) {
	for _, line := range []string{begun, "begin 2 0 0 s none", "begin 1 1000 2000 " + strings.Repeat("z", 64) + " once", "begin 2 7 1 - none"} {
		answer := plays(t, line)[0]
		groups := strings.Split(answer, " ")
		if groups[0] != "begun" || len(groups) != 13 || len(answer) != len("begun ")+71 {
			t.Fatalf("%q tells %q", line, answer)
		}
		for _, g := range groups[1:] {
			if n, err := strconv.Atoi(g); err != nil || n < 0 || len(g) != 5 {
				t.Errorf("%q tells %q", line, answer)
			}
		}
	}
	// It hangs on the seed alone, and is another one for another seed.
	one := plays(t, "begin 1 5 9 s once")[0]
	if plays(t, "begin 2 0 3 s none")[0] != one || plays(t, "begin 1 5 9 t once")[0] == one {
		t.Error("the safety number hangs on what it must not, or not on the seed")
	}
}

// Examples 3, 4 and 5.
func TestRunExamples(t *testing.T) {
	plays(t, script("begin 1 5 9 s none", "give 1 bob", "look alice", "look bob"),
		"missing", "look 0 0 0 0 1", "look 0 0 0 0 0")
	plays(t, script(begun, "bytes alice a 6869", "give 1 bob", "give 1 bob"),
		"sent 1 164", "bytes 1 1 6869", "refused 4 134 1 0")
	plays(t, script(begun, "forge - bob"), "refused 2 81 0 0")
	if trace := checkRun(t, "# one\n\n "+begun+"\n\n\nlook bob\n#\nlook alice"); !strings.HasPrefix(trace, "3 begun ") || !strings.HasSuffix(trace, "\n6 look 0 0 0 0 0\n8 look 0 0 0 0 1\n") {
		t.Errorf("the trace is %q", trace)
	}
}

// Ten examples of the whole, as far as scripts can tell them.
func TestRunExamplesOfTheWhole(t *testing.T) {
	plays(t, script("begin 1 5 9 s once", "bytes bob x 00", `send alice a text "hi"`, "give 1 bob", "give 1 bob",
		"bytes alice a "+strings.Repeat("00", 60), "bytes alice a "+strings.Repeat("00", 61), "bytes alice a -", "give 4 bob", "look bob", "give 2 bob",
		"bytes bob b 01", "give 5 alice", "look alice"),
		"refused 4 131", "sent 1 164", `heard 1 1 text "hi"`, "refused 4 134 1 0",
		"sent 2 164", "sent 3 229", "sent 4 164", "bytes 1 3 -", "look 0 0 4 2 1", "bytes 1 0 "+strings.Repeat("00", 60),
		"sent 5 164", "bytes 1 1 01", "look 4 0 1 0 1")
	plays(t, script("begin 1 1 9 s once", "bytes alice a 00", "bytes alice a 01", "bytes alice a 02", "give 3 bob", "give 1 bob"),
		"refused 4 133 1 0", "bytes 1 1 00")
	plays(t, script("begin 1 5 2 s once", "bytes alice a 00", "bytes alice a 01", "bytes alice a 02", "bytes alice a 03", "bytes alice a 04",
		"give 2 bob", "give 5 bob", "forget bob 1", "give 5 bob", "look bob"),
		"bytes 1 2 01", "refused 4 120 1 0", "forgot 1", "bytes 1 3 04", "look 0 0 5 2 1")
}

// What is sent: its number counts up over both sides, its length hangs on the version and the bucket; a refusal takes no number.
func TestSent(t *testing.T) {
	for version := 1; version <= 2; version++ {
		lines := []string{fmt.Sprintf("begin %d 5 9 s none", version)}
		want := []string{}
		for i, n := range []int{0, 1, 59, 60, 61, 68, 69, 124, 125, 252, 253, 1900} {
			length, why := envelope.Length(version, n)
			must(why == api.OK)
			lines = append(lines, "bytes bob b 00", "bytes alice a "+tohex(bytes.Repeat([]byte{7}, n)))
			want = append(want, "refused 4 131", fmt.Sprintf("sent %d %d", i+1, length))
		}
		plays(t, script(lines...), want...)
	}
	plays(t, script(begun, "bytes alice a 00", "give 1 bob", "bytes bob b 00", "bytes alice c 00", "give 2 alice", "bytes alice d 00", "bytes bob b 00"),
		"sent 1 164", "bytes 1 1 00", "sent 2 164", "sent 3 164", "bytes 1 1 00", "sent 4 164", "sent 5 164")
	long := `text "` + strings.Repeat("x", api.MaxText) + `"`
	plays(t, script(begun, "send alice a "+long, "give 1 bob"), "sent 1 2149", "heard 1 1 "+long)
	most := strings.Repeat("ab", (mostLine-len("bytes alice a "))/2)
	plays(t, script(begun, "bytes alice a "+most, "give 1 bob"), "sent 1 2149", "bytes 1 1 "+most)
}

// Every kind of content is heard as its line; bytes of a content that were sent as bytes too; other bytes as they are.
func TestHeard(t *testing.T) {
	for _, line := range []string{`text "hi"`, `text ""`, `text "\u{e9}\u{0}a\"\\  # b"`, "came 1", "read 3 300 4294967295", `place 404a400000000000 bfd0000000000000 "here"`,
		`react 0 "+"`, "timer 31536000", `file "a b" 1099511627776 ` + strings.Repeat("0f", 32)} {
		c, _, why := content.Parse(line)
		must(why == api.OK)
		b, err := content.Encode(c)
		must(err == nil)
		plays(t, script(begun, "send alice a "+line, "bytes alice a "+tohex(b), "give 1 bob", "give 2 bob"),
			"heard 1 1 "+line, "heard 1 1 "+line)
		for n := range b {
			plays(t, script(begun, "bytes alice a "+tohex(b[:n]), "give 1 bob"), "bytes 1 1 "+tohex(b[:n]))
		}
	}
	plays(t, script(begun, "bytes alice a -", "give 1 bob"), "sent 1 164", "bytes 1 1 -")
	plays(t, script(begun, "bytes alice a 0aff", "give 1 bob"), "bytes 1 1 0aff")
	plays(t, script(begun, "bytes alice a 0807", "give 1 bob"), "bytes 1 1 0807")
	plays(t, script(begun, "bytes alice a 0802100218020308030803", "give 1 bob"), "bytes 1 1 0802100218020308030803")
}

// No envelope of that number: ahead of the first, 0, behind the last, at the end of numbers; by each command that names one.
func TestMissing(t *testing.T) {
	for _, rest := range []string{"give K bob", "turn K 0 bob", "cut K 0 bob", "cut K 999999999 alice", "join K - bob", "join K 00 alice", "extra K - bob", "extra K 00 bob"} {
		at := func(k string) string { return strings.Replace(rest, "K", k, 1) }
		plays(t, script(begun, at("0"), at("1"), at("999999999")), "missing", "missing", "missing")
		answers := plays(t, script(begun, "bytes alice a 00", at("0"), at("2"), at("999999999"), "bytes alice a 00", at("3"), at("2")))
		for i, a := range answers[2:7] {
			if i != 3 && a != "missing" {
				t.Errorf("%s: number %d tells %q", rest, i, a)
			}
		}
		if answers[7] == "missing" {
			t.Errorf("%s: the last one is missing", rest)
		}
	}
	plays(t, script(begun, "load bob a", "load alice b"), "missing", "missing")
}

// Refusals of each part, with the work.
func TestRefused(t *testing.T) {
	sent := script("begin 1 2 3 s none", "bytes alice a 00", "bytes alice a 01", "bytes alice a 02", "bytes alice a 03", "bytes alice a 04")
	plays(t, sent+"forge 00 bob", "refused 2 71 0 0")
	plays(t, sent+"forge 0803 bob", "refused 2 100 0 0")
	plays(t, sent+"cut 1 0 bob", "refused 2 81 0 0")
	plays(t, sent+"cut 1 100 bob", "refused 2 73 0 0")
	plays(t, sent+"join 1 00 bob", "refused 2 71 0 0")
	plays(t, sent+script("give 1 alice", "give 1 bob", "give 1 alice"), "refused 3 132 1 0", "bytes 1 1 00", "refused 3 132 1 0")
	plays(t, sent+script("turn 1 32 bob", "give 1 bob", "turn 1 32 bob"), "refused 3 132 1 0", "bytes 1 1 00", "refused 3 132 2 0")
	plays(t, sent+script("give 4 bob", "give 3 bob", "give 3 bob", "give 5 bob", "look bob"), "refused 4 133 1 0", "bytes 1 3 02", "refused 4 134 1 0", "bytes 1 2 04", "look 0 0 5 3 1")
	plays(t, sent+script("give 3 bob", "bytes alice a 05", "give 6 bob", "look bob"), "sent 6 164", "refused 4 120 1 0", "look 0 0 3 2 1")
	plays(t, sent+script("give 3 bob", "extra 5 00 bob", "extra 2 ff bob", "give 5 bob", "give 2 bob"), "refused 5 135 1 2", "refused 5 135 1 0", "bytes 1 2 04", "bytes 1 0 01")
	plays(t, sent+"extra 3 00 bob", "refused 5 135 1 3")
	plays(t, sent+"import bob -", "refused 7 81")
}

// behind is what a script has come to.
func behind(text string) *labByWords {
	var l labByWords
	list, f := parseByWords(text)
	must(f == nil)
	for _, c := range list {
		l.tell(c)
	}
	return &l
}

// sentBy is the envelopes that were sent in a script, exported the state of a side behind it.
func sentBy(text string) [][]byte { return behind(text).sent }

func exported(text, side string) api.State { return (*behind(text).side(side)).State() }

// asHex is the word of a state's bytes.
func asHex(s api.State) string {
	b, err := session.Encode(s)
	must(err == nil)
	return tohex(b)
}

// Refusals that only a side can answer which goes on from other bytes than its own.
func TestRefusedBehindImport(t *testing.T) {
	start := script("begin 1 5 9 s none", "bytes alice a 00")
	s := exported(start, "alice")
	s.SendN = 1<<32 - 1
	plays(t, start+script("import alice "+asHex(s), "bytes alice a 00", "look alice"),
		fmt.Sprintf("loaded %d", len(asHex(s))/2), "refused 4 110", "look 4294967295 0 0 0 0")
	s.Prev = 1<<32 - 2
	plays(t, start+script("import alice "+asHex(s), "look alice"), fmt.Sprintf("loaded %d", len(asHex(s))/2), "look 4294967295 4294967294 0 0 0")
	s = exported(start+"give 1 bob", "bob")
	s.RecvN = 1<<32 - 3
	plays(t, start+script("import bob "+asHex(s), "look bob"), fmt.Sprintf("loaded %d", len(asHex(s))/2), "look 0 0 4294967293 0 1")
	s = exported(script(begun), "alice")
	s.Peer = api.Key{}
	plays(t, start+script("import bob "+asHex(s), "bytes bob a 00"), "loaded 160", "refused 4 20")
	s = exported(script("begin 2 5 9 s none"), "bob")
	plays(t, start+script("import bob "+asHex(s), "give 1 bob"), fmt.Sprintf("loaded %d", len(asHex(s))/2), "refused 2 100 0 0")
}

// A bit is turned where its number says, and above the number of bits where the remainder does: told by forging the same bytes.
func TestTurn(t *testing.T) {
	start := script("begin 1 5 9 s none", "bytes alice a 00", "bytes alice a 01")
	e := sentBy(start)[1]
	bits := 8 * len(e)
	greatest := (999999999/bits - 1) * bits
	reasons := map[string]bool{}
	const atOnce = 82
	for from := 0; from < bits; from += atOnce {
		text := start
		for at := from; at < min(from+atOnce, bits); at++ {
			b := slices.Clone(e)
			b[at/8] ^= 1 << (at % 8)
			text += script("forge "+tohex(b)+" bob", fmt.Sprintf("turn 2 %d bob", at), fmt.Sprintf("turn 2 %d bob", at+bits), fmt.Sprintf("turn 2 %d bob", at+greatest))
		}
		answers := plays(t, text+script("give 2 bob", "give 1 bob"), "bytes 1 2 01", "bytes 1 0 00")
		for l := range slices.Chunk(answers[3:len(answers)-2], 4) {
			if !strings.HasPrefix(l[0], "refused ") || l[1] != l[0] || l[2] != l[0] || l[3] != l[0] {
				t.Fatalf("the bits from %d on: %q", from, l)
			}
			reasons[l[0]] = true
		}
	}
	if !reasons["refused 3 132 1 0"] || !reasons["refused 5 135 1 2"] || len(reasons) < 5 {
		t.Errorf("bits that are turned tell %v", reasons)
	}
	plays(t, start+script("turn 2 999999999 bob", fmt.Sprintf("turn 2 %d bob", 999999999%bits)))
}

// The same bytes, told by forging them: cut at each place, with bytes behind them. A cut that leaves all is none; so are a join and an extra of no bytes.
func TestCutAndJoin(t *testing.T) {
	start := script("begin 1 5 9 s none", "bytes alice a 00", "bytes alice a 01")
	e := sentBy(start)[1]
	text := start
	for n := range e {
		text += script(fmt.Sprintf("cut 2 %d bob", n), "forge "+tohex(e[:n])+" bob")
	}
	for _, behind := range []string{"00", "08", "2a00", "ffffffffffffffffffff01"} {
		text += script("join 2 "+behind+" bob", "forge "+tohex(e)+behind+" bob")
	}
	answers := plays(t, text+"give 2 bob", "bytes 1 2 01")
	for l := range slices.Chunk(answers[3:len(answers)-1], 2) {
		if !strings.HasPrefix(l[0], "refused 2 ") || !strings.HasSuffix(l[0], " 0 0") || l[1] != l[0] {
			t.Fatalf("a cut or a join tells %q", l)
		}
	}
	want := plays(t, start+script("give 2 bob", "look bob", "export bob"))[3:]
	for _, line := range []string{"cut 2 164 bob", "cut 2 165 bob", "cut 2 999999999 bob", "join 2 - bob", "extra 2 - bob", "forge " + tohex(e) + " bob"} {
		plays(t, start+script(line, "look bob", "export bob"), want...)
	}
	if want[0] != "bytes 1 2 01" {
		t.Errorf("what is given whole tells %q", want[0])
	}
}

// forgot: fewer than there are, more, none, and at a side that has none.
func TestForget(t *testing.T) {
	start := script("begin 1 5 9 s none") + strings.Repeat("bytes alice a 00\n", 5) + "give 5 bob\n"
	plays(t, start+script("look bob", "forget bob 0", "forget bob 1", "look bob", "give 1 bob", "give 2 bob", "forget bob 9", "forget bob 1", "look bob", "give 3 bob"),
		"look 0 0 5 4 1", "forgot 0", "forgot 1", "look 0 0 5 3 1", "refused 4 134 1 0", "bytes 1 0 00", "forgot 2", "forgot 0", "look 0 0 5 0 1", "refused 4 134 1 0")
	plays(t, start+script("forget bob 999999999", "forget alice 999999999", "forget alice 0"), "forgot 4", "forgot 0", "forgot 0")
	plays(t, start+script("forget bob 4", "look bob"), "forgot 4", "look 0 0 5 0 1")
}

// What is exported is told by its length and its sum; it is the state's bytes.
func TestExport(t *testing.T) {
	start := script("begin 1 5 7 s none")
	for _, side := range []string{"alice", "bob"} {
		s := exported(start, side)
		b, err := session.Encode(s)
		must(err == nil)
		plays(t, start+"export "+side, fmt.Sprintf("export %d %s", len(b), tohex(sumOf(string(b)))))
	}
	answers := plays(t, start+script("export alice", "export alice", "export bob", "bytes alice a 00", "export alice", "give 1 bob", "export bob"))
	if answers[1] != answers[2] || answers[1] == answers[3] || answers[5] == answers[1] || answers[7] == answers[3] || !strings.HasPrefix(answers[1], "export 160 ") {
		t.Errorf("exports tell %q", answers)
	}
}

// Under a name stands what was kept last; it stays there; a side goes on from it, whoever's it was.
func TestSaveAndLoad(t *testing.T) {
	start := script("begin 1 5 9 s none", "bytes alice a 00", "bytes alice a 01", "bytes alice a 02")
	answers := plays(t, start+script("save bob x", "give 1 bob", "save bob y", "give 2 bob", "load bob x", "give 2 bob", "load bob y", "give 1 bob", "give 2 bob", "load bob x", "give 1 bob"))
	want := []string{"", "bytes 1 1 00", "", "bytes 1 1 01", "", "bytes 1 2 01", "", "refused 4 134 1 0", "bytes 1 1 01", "", "bytes 1 1 00"}
	for i, w := range want {
		if got := answers[4+i]; w != "" && got != w {
			t.Errorf("the line %d tells %q, not %q", 5+i, got, w)
		}
	}
	for _, x := range [][2]int{{4, 8}, {6, 10}, {4, 13}} {
		if strings.TrimPrefix(answers[x[0]], "saved ") != strings.TrimPrefix(answers[x[1]], "loaded ") {
			t.Errorf("%q, but %q", answers[x[0]], answers[x[1]])
		}
	}
	// The same name twice: the second one's stands there.
	plays(t, start+script("save bob x", "give 1 bob", "save bob x", "give 2 bob", "load bob x", "look bob", "give 1 bob"), "look 0 0 1 0 1", "refused 4 134 1 0")
	// A refused load leaves what is kept, and the side.
	plays(t, start+script("save bob x", "give 1 bob", "load bob y", "look bob", "load bob x", "look bob"),
		"missing", "look 0 0 1 0 1", fmt.Sprintf("loaded %d", len(asHex(exported(start, "bob")))/2), "look 0 0 0 0 0")
}

// A side goes on from the other one's state: it then hears and sends what the other one would.
func TestLoadOfTheOther(t *testing.T) {
	start := script("begin 1 5 9 s none", "bytes alice a 00", "save bob b", "save alice a")
	plays(t, start+script("load alice b", "give 1 alice", "give 1 bob", "look alice", "look bob"), "bytes 1 1 00", "bytes 1 1 00", "look 0 0 1 0 1", "look 0 0 1 0 1")
	plays(t, start+script("load bob a", "bytes bob x 01", "load alice b", "give 2 alice", "give 1 alice"), "sent 2 164", fmt.Sprintf("loaded %d", len(asHex(exported(start, "bob")))/2), "bytes 1 2 01", "bytes 1 0 00")
	plays(t, start+script("load bob a", "give 1 bob", "look bob", "look alice"), "refused 3 132 1 0", "look 1 0 0 0 0", "look 1 0 0 0 0")
}

// What is imported: a state's bytes, with a byte more, less, another; and a state that can't be.
func TestImport(t *testing.T) {
	start := script("begin 1 5 7 s none", "bytes alice a 00")
	s := exported(start, "bob")
	word := asHex(s)
	plays(t, start+script("give 1 bob", "import bob "+word, "give 1 bob", "import bob "+word, "export bob"),
		"bytes 1 1 00", fmt.Sprintf("loaded %d", len(word)/2), "bytes 1 1 00", fmt.Sprintf("loaded %d", len(word)/2), fmt.Sprintf("export %d %s", len(word)/2, tohex(sumOf(string(unhex(word))))))
	for _, no := range []string{"-", "00", "ff", "0801", word + "00", word[:len(word)-2], "08" + word, "0803" + word[4:]} {
		answers := plays(t, start+script("give 1 bob", "export bob", "import bob "+no, "export bob", "export alice", "import alice "+no, "export alice"))
		if !strings.HasPrefix(answers[4], "refused 7 ") || answers[7] != answers[4] || answers[3] != answers[5] || answers[6] != answers[8] {
			t.Errorf("import of %.20s: %q", no, answers)
		}
	}
	// A chain without a pair: no such state can be.
	full := exported(start, "alice")
	full.Own, full.HasOwn = api.Pair{}, false
	if _, err := session.Encode(full); err == nil {
		t.Fatal("there is such a state")
	}
	with := asHex(exported(start, "alice"))
	own := exported(start, "alice").Own
	pair := "2a45440a20" + tohex(own.Private[:]) + "1220" + tohex(own.Public[:])
	if strings.Count(with, pair) != 1 {
		t.Fatal("the pair's field is not found")
	}
	plays(t, start+"import alice "+strings.Replace(with, pair, "2a00", 1), "refused 7 150")
	// The config goes on as the state has it.
	s = exported(start, "bob")
	s.Config = api.Config{Version: 1, Skip: 0, Store: 0}
	plays(t, start+script("bytes alice a 01", "import bob "+asHex(s), "give 2 bob", "give 1 bob", "give 2 bob"),
		fmt.Sprintf("loaded %d", len(asHex(s))/2), "refused 4 133 1 0", "bytes 1 1 00", "bytes 1 1 01")
}

// The counters: each at its place.
func TestLook(t *testing.T) {
	plays(t, script("begin 2 9 9 s once", "bytes alice a 00", "bytes alice a 01", "look alice", "give 2 bob", "look bob",
		"bytes bob b 02", "look bob", "give 3 alice", "look alice", "bytes alice c 03", "look alice", "give 4 bob", "look bob"),
		"sent 2 164", "look 2 0 0 0 0", "bytes 1 2 01", "look 0 0 2 1 1", "sent 3 164", "look 1 0 2 1 0", "bytes 1 1 02", "look 2 0 1 0 1", "sent 4 164", "look 1 2 1 0 0", "bytes 2 1 03", "look 1 0 1 1 1")
}

// However many spares there are, just so many are told.
func TestLookAtSpares(t *testing.T) {
	const sent = 180
	lines := []string{"begin 1 1000 2000 s none"}
	for range sent {
		lines = append(lines, "bytes alice a 00")
	}
	lines = append(lines, fmt.Sprintf("give %d bob", sent))
	var want []string
	for n := sent - 1; n >= 80; n-- {
		lines = append(lines, "look bob", "forget bob 1")
		want = append(want, fmt.Sprintf("look 0 0 %d %d 1", sent, n), "forgot 1")
	}
	plays(t, script(lines...), want...)
	lines = []string{"begin 1 1000 2000 s none"}
	want = nil
	for n := range 100 {
		lines = append(lines, "bytes alice a 00", "bytes alice a 00", fmt.Sprintf("give %d bob", 2*n+2), "look bob")
		want = append(want, fmt.Sprintf("look 0 0 %d %d 1", 2*n+2, n+1))
		if len(lines)+4 > mostOps {
			break
		}
	}
	answers := plays(t, script(lines...))
	for n, w := range want {
		if got := answers[4*n+4]; got != w {
			t.Fatalf("%q, not %q", got, w)
		}
	}
}

// Drawn scripts of all commands, held against the words.
func TestRunDrawn(t *testing.T) {
	d := newDrawer(1601)
	seen := map[string]int{}
	for range 120 {
		text := script(d.script(40)...)
		_, answers := told(t, checkRun(t, text))
		for _, a := range answers {
			word, rest, _ := strings.Cut(a, " ")
			if word == "refused" {
				word += " " + strings.Split(rest, " ")[0]
			}
			seen[word]++
		}
	}
	for _, word := range []string{"begun", "sent", "heard", "bytes", "missing", "forgot", "export", "saved", "loaded", "look", "refused 2", "refused 3", "refused 4", "refused 5", "refused 7"} {
		if seen[word] < 15 {
			t.Errorf("%s was told %d times", word, seen[word])
		}
	}
}

// A script of as many commands and as many bytes as there may be.
func TestRunLongest(t *testing.T) {
	lines := []string{"begin 1 1000 2000 s once"}
	most := "bytes alice a " + strings.Repeat("ab", 390)
	for len(lines) < 200 {
		lines = append(lines, most)
	}
	for k := 199; len(lines) < mostOps; k-- {
		lines = append(lines, "give "+strconv.Itoa(max(k, 0))+" bob")
	}
	answers := plays(t, script(lines...))
	for i, a := range answers[200:] {
		steps := 0
		if i == 0 {
			steps = 199
		}
		want := fmt.Sprintf("bytes 1 %d %s", steps, strings.Repeat("ab", 390))
		if i == 199 {
			want = "missing"
		}
		if a != want {
			t.Fatalf("the line %d tells %.40q, not %.40q", 201+i, a, want)
		}
	}
}
