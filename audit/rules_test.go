package audit_test

import (
	"fmt"
	"slices"
	"strings"
	"testing"

	"pawl/api"
	"pawl/envelope"
)

// Rules 2 to 8, and the chapter's examples.

// bends: of a script whose trace is right, the answer of a line replaced by another one breaks a rule there (0: none).
func bends(t *testing.T, text string, line, rule int, with ...string) {
	t.Helper()
	answers := runs(t, text)
	right(t, text, answers)
	for _, answer := range with {
		at := 0
		if rule > 0 {
			at = line
		}
		judged(t, text, other(answers, line, answer), rule, at)
	}
}

func TestExamples(t *testing.T) {
	text := script(begun, "bytes alice a 6869", "give 1 bob", "look bob", "give 1 bob")
	if got := runs(t, text)[1:]; !slices.Equal(got, []string{"sent 1 164", "bytes 1 1 6869", "look 0 0 1 0 1", "refused 4 134 1 0"}) {
		t.Fatalf("the trace is %q", got)
	}
	bends(t, text, 2, 3, "sent 1 165")
	bends(t, text, 2, 5, "refused 4 131")
	bends(t, text, 2, 1, "missing")
	bends(t, text, 3, 2, "missing")
	bends(t, text, 3, 6, "bytes 1 1 6868", "refused 5 135 1 1", "bytes 1 2 6869")
	bends(t, text, 3, 4, "bytes 12 1 6869")
	bends(t, text, 4, 7, "look 0 0 1 1 1")

	turned := text + "turn 1 40 bob\n"
	if got := runs(t, turned)[5]; got != "refused 3 132 2 0" {
		t.Fatalf("it tells %q", got)
	}
	bends(t, turned, 6, 6, "refused 3 132 1 0", "refused 3 132 2 1", "refused 4 132 2 0", "refused 3 134 2 0", "refused 5 135 2 0", "bytes 2 1 6869", "refused 2 71 0 0", `heard 2 1 text "hi"`)
	version := text + "turn 1 0 bob\n"
	bends(t, version, 6, 0, "refused 2 71 0 0", "refused 2 0 0 0", "refused 2 9999999999 0 0")
	bends(t, version, 6, 6, "refused 2 71 1 0", "refused 2 71 0 1", "refused 3 71 0 0", "refused 1 71 0 0", "bytes 0 0 6869")

	forged := text + script("forge 00 bob", "look bob", "bytes bob b 00", "give 2 alice", "give 1 bob", "export bob", "forget bob 3")
	answers := runs(t, forged)
	right(t, forged, answers)
	right(t, forged, other(answers, 6, "refused 9 9 9 9"))
	lost := append(slices.Clone(answers[:5]), `heard 1 1 text "x"`, "look 7 7 7 7 0", "sent 2 7", "bytes 1 1 ff", "bytes 99 99 00", "export 1 "+sumHex, "forgot 99")
	right(t, forged, lost)
	judged(t, forged, other(lost, 7, "look 7 7 7 7 2"), 1, 7)
	judged(t, forged, other(lost, 8, "sent 3 7"), 3, 8)
	judged(t, forged, other(lost, 10, "missing"), 2, 10)
}

// Rule 2: an envelope of that number, something under that name.
func TestMissing(t *testing.T) {
	ways := []string{"give %d bob", "turn %d 8 bob", "cut %d 5 bob", "join %d 00 bob", "extra %d 00 bob", "give %d alice"}
	for _, way := range ways {
		for _, k := range []int{0, 1, 2, 3, 999999999} {
			text := script(begun, "bytes bob b 00", "bytes alice a 00", "bytes alice a 01", fmt.Sprintf(way, k))
			answers := runs(t, text)
			is := k == 1 || k == 2
			if (answers[4] != "missing") != is {
				t.Fatalf("number %d: %s", k, answers[4])
			}
			if is {
				bends(t, text, 5, 2, "missing")
			} else {
				bends(t, text, 5, 2, "refused 3 132 1 0", "refused 2 71 0 0", "bytes 1 1 00", `heard 1 1 timer 5`, "refused 9 9 99999 99999")
			}
		}
	}
	text := script(begun, "load bob a", "save alice a", "load bob a", "load alice b", "save bob b", "load alice b", "load bob c")
	bends(t, text, 2, 2, "loaded 160")
	bends(t, text, 4, 2, "missing")
	bends(t, text, 5, 2, "loaded 160", "loaded 0")
	bends(t, text, 7, 2, "missing")
	bends(t, text, 8, 2, "loaded 160")
}

// Rule 2 of what is unknown: an envelope and a side that nobody knows are there all the same.
func TestMissingUnknown(t *testing.T) {
	text := script(append(slices.Clone(unknown), "give 1 bob", "load bob a", "give 2 bob", "load bob b")...)
	answers := append(slices.Clone(unknownAnswers), "bytes 9 9 00", "loaded 5", "missing", "missing")
	right(t, text, answers)
	judged(t, text, other(answers, 6, "missing"), 2, 6)
	judged(t, text, other(answers, 7, "missing"), 2, 7)
	judged(t, text, other(answers, 8, "bytes 9 9 00"), 2, 8)
	judged(t, text, other(answers, 9, "loaded 5"), 2, 9)
}

// Rule 3: envelopes count up over both sides, and have the length of their bucket.
func TestNumbers(t *testing.T) {
	for version := 1; version <= 2; version++ {
		for _, n := range []int{0, 1, 60, 61, 68, 69, 124, 125, 252, 253, 1900} {
			length, why := envelope.Length(version, n)
			must(why == api.OK)
			text := script(fmt.Sprintf("begin %d 5 9 s once", version), "bytes alice a 00", "give 1 bob", "bytes bob b "+tohex(make([]byte, n)), "bytes alice a 02")
			if got := runs(t, text)[3]; got != fmt.Sprintf("sent 2 %d", length) {
				t.Fatalf("%d bytes: %s", n, got)
			}
			bends(t, text, 4, 3, fmt.Sprintf("sent 2 %d", length+1), fmt.Sprintf("sent 2 %d", length-1), fmt.Sprintf("sent 1 %d", length), fmt.Sprintf("sent 3 %d", length), "sent 2 0", "sent 0 0", fmt.Sprintf("sent 2 %d", 1000000000+length), fmt.Sprintf("sent 4294967298 %d", length))
		}
	}
	for _, line := range []string{`text "hi"`, `text "\u{e9}` + strings.Repeat("x", 58) + `"`, "timer 5", "read 3 300", `file "` + strings.Repeat(`\\`, 100) + `" 0 ` + sumHex} {
		text := script(begun, "send alice a "+line)
		_, size, _ := strings.Cut(runs(t, text)[1], "sent 1 ")
		bends(t, text, 2, 3, "sent 2 "+size, fmt.Sprintf("sent 1 %d", num(size)+65), fmt.Sprintf("sent 1 %d", num(size)-65), "sent 0 "+size)
	}
	// It is looked at ahead of whether anything could be sent at all; of an unknown side the number alone is.
	text := script(begun, "bytes bob b 00")
	bends(t, text, 2, 3, "sent 1 165", "sent 2 164", "sent 0 164", "sent 1 0")
	bends(t, text, 2, 5, "sent 1 164")
	text = script(append(slices.Clone(unknown), "bytes alice a 00", "bytes bob b 00", "bytes bob b 00")...)
	answers := append(slices.Clone(unknownAnswers), "sent 2 0", "refused 9 9", "sent 3 9999999999")
	right(t, text, answers)
	judged(t, text, other(answers, 6, "sent 1 164"), 3, 6)
	judged(t, text, other(answers, 7, "sent 2 164"), 3, 7)
	judged(t, text, other(answers, 7, "sent 3 164"), 3, 8)
	judged(t, text, other(answers, 8, "sent 4 164"), 3, 8)
}

// Rule 4: Store + 2 trials and 2 Skip + 1 steps, of a side that is known.
func TestBounds(t *testing.T) {
	for _, c := range [][2]int{{0, 0}, {1, 0}, {0, 1}, {5, 9}, {1000, 2000}} {
		skip, store := c[0], c[1]
		text := script(fmt.Sprintf("begin 1 %d %d s none", skip, store), "forge 00 bob", "forge ff alice")
		answers := runs(t, text)
		right(t, text, answers)
		for _, line := range []int{2, 3} {
			for _, form := range []string{"heard %d %d timer 5", "bytes %d %d 00", "refused 3 132 %d %d"} {
				for _, x := range []struct{ trials, steps, rule int }{
					{store + 2, 2*skip + 1, 0}, {store + 3, 2*skip + 1, 4}, {store + 2, 2*skip + 2, 4}, {0, 0, 0}, {store + 3, 0, 4}, {0, 2*skip + 2, 4}, {4294967296, 0, 4}, {0, 4294967296, 4}, {9999999999, 9999999999, 4}, {0, 8589934593, 4},
				} {
					at := 0
					if x.rule > 0 {
						at = line
					}
					judged(t, text, other(answers, line, fmt.Sprintf(form, x.trials, x.steps)), x.rule, at)
				}
			}
		}
	}
	// Behind it the rule that says what must come; ahead of it what is missing.
	text := script(begun, "bytes alice a 00", "give 1 bob", "give 2 bob", "turn 1 0 bob", "give 1 alice")
	bends(t, text, 3, 4, "bytes 12 1 00", "bytes 1 12 00", "refused 5 135 12 0", "refused 2 71 0 12")
	bends(t, text, 3, 6, "bytes 11 1 00", "bytes 1 11 00", "bytes 11 11 00")
	bends(t, text, 4, 2, "bytes 12 1 00")
	bends(t, text, 5, 4, "refused 2 71 12 0", "refused 2 71 0 12")
	bends(t, text, 5, 6, "refused 2 71 11 0", "refused 2 71 0 11")
	bends(t, text, 6, 4, "refused 3 132 12 0")
	// The numbers of a part and an error have none.
	bends(t, text, 5, 0, "refused 2 9999999999 0 0")
	bends(t, text, 5, 6, "refused 9999999999 9999999999 0 0")
	// An unknown envelope to a known side; and a known one to an unknown side, of which nothing must come.
	text = script(begun, "bytes alice a 00", "import alice 00", "bytes alice a 00", "give 2 bob", "give 1 bob", "give 1 alice", "give 2 alice")
	answers := append(runs(t, text)[:2], "loaded 9", "sent 2 0", "refused 9 9 11 11", "bytes 1 1 00", "bytes 999 999 00", "refused 9 9 99999 99999")
	right(t, text, answers)
	judged(t, text, other(answers, 5, "refused 9 9 12 11"), 4, 5)
	judged(t, text, other(answers, 5, "bytes 11 12 00"), 4, 5)
}

// Rule 5: who can send, must; who can't, is refused so.
func TestSent(t *testing.T) {
	text := script(begun, "bytes bob b 00", "bytes alice a 00", "bytes alice a 01", "bytes bob b 01", "give 2 bob", "bytes bob b 02", "give 3 alice", "bytes alice c 03", `send bob x timer 5`)
	bends(t, text, 2, 5, "sent 1 164", "refused 4 130", "refused 4 132", "refused 3 131", "refused 5 131", "refused 0 0", "refused 131 4", "refused 4 9999999999")
	for _, line := range []int{3, 4, 7, 9, 10} {
		bends(t, text, line, 5, "refused 4 131", "refused 1 3", "refused 4 110", "refused 0 0")
	}
	bends(t, text, 5, 5, "sent 3 164", "refused 4 134")
	// A side that was laid down ahead of its first word is silent again.
	text = script(begun, "save bob a", "bytes alice a 00", "give 1 bob", "bytes bob b 00", "load bob a", "bytes bob b 01")
	bends(t, text, 7, 5, "sent 3 164", "refused 4 130")
	// One that goes on from the other's state can write.
	text = script(begun, "save alice a", "load bob a", "bytes bob b 00", "bytes alice c 00")
	bends(t, text, 4, 5, "refused 4 131")
}

// Rule 6: what is handed on is heard just once, with that work, and says just what was sent.
func TestHeard(t *testing.T) {
	text := script(begun, "bytes alice a 00", `send alice a text "hi  there"`, "bytes alice a 080112026869", "bytes alice a -", "give 2 bob", "give 4 bob", "give 3 bob", "give 1 bob", "give 1 bob", "give 2 alice")
	got := runs(t, text)[5:]
	if want := []string{`heard 1 2 text "hi  there"`, "bytes 1 2 -", `heard 1 0 text "hi"`, "bytes 1 0 00", "refused 4 134 1 0", "refused 3 132 1 0"}; !slices.Equal(got, want) {
		t.Fatalf("the trace is %q", got)
	}
	bends(t, text, 6, 6, `heard 1 2 text "hi there"`, `heard 1 1 text "hi  there"`, `heard 2 2 text "hi  there"`, "bytes 1 2 00", "bytes 1 2 -", "refused 4 133 1 0", "refused 3 132 1 0", "heard 1 2 timer 5", "refused 2 71 0 0")
	bends(t, text, 7, 6, "bytes 1 2 00", "bytes 1 3 -", "bytes 2 2 -", `heard 1 2 text ""`, "refused 4 134 1 0")
	bends(t, text, 8, 6, `heard 1 0 text "ho"`, `heard 1 1 text "hi"`, "bytes 1 0 ff", "refused 4 134 1 0")
	bends(t, text, 9, 6, "bytes 1 0 0000", "bytes 1 1 00", "refused 4 134 1 0")
	bends(t, text, 10, 6, "bytes 1 0 00", "refused 4 134 2 0", "refused 4 134 1 1", "refused 3 134 1 0", "refused 4 133 1 0", "refused 3 132 1 0")
	bends(t, text, 11, 6, "refused 3 132 2 0", "refused 3 132 0 0", "refused 4 134 1 0", "bytes 1 1 00")
}

// beyond: an answer of those words tells more work than the bounds of a beginning allow.
func beyond(begin string, w []string) bool {
	c := strings.Split(begin, " ")
	at := 1
	if w[0] == "refused" {
		at = 3
	}
	return num(w[at]) > num(c[3])+2 || num(w[at+1]) > 2*num(c[2])+1
}

// Rule 6, and all that chapter 13's Open refuses: each told, and each by other numbers.
func TestRefusals(t *testing.T) {
	for _, x := range []struct {
		name  string
		lines []string
		last  string
	}{
		{"old", []string{"begin 1 5 9 s none", "bytes alice a 00", "give 1 bob", "give 1 bob"}, "refused 4 134 1 0"},
		{"one too many is skipped", []string{"begin 1 1 9 s none", "bytes alice a 00", "bytes alice a 01", "bytes alice a 02", "give 3 bob"}, "refused 4 133 1 0"},
		{"just so many are skipped", []string{"begin 1 2 9 s none", "bytes alice a 00", "bytes alice a 01", "bytes alice a 02", "give 3 bob"}, "bytes 1 3 02"},
		{"one too many in a chain", []string{"begin 1 1 9 s none", "bytes alice a 00", "give 1 bob", "bytes alice a 01", "bytes alice a 02", "bytes alice a 03", "give 4 bob"}, "refused 4 133 1 0"},
		{"just so many in a chain", []string{"begin 1 2 9 s none", "bytes alice a 00", "give 1 bob", "bytes alice a 01", "bytes alice a 02", "bytes alice a 03", "give 4 bob"}, "bytes 1 3 03"},
		{"no room in a chain", []string{"begin 1 5 1 s none", "bytes alice a 00", "give 1 bob", "bytes alice a 01", "bytes alice a 02", "bytes alice a 03", "give 4 bob"}, "refused 4 120 1 0"},
		{"no room in a new one", []string{"begin 1 5 1 s none", "bytes alice a 00", "bytes alice a 01", "bytes alice a 02", "give 3 bob"}, "refused 4 120 1 0"},
		{"just room", []string{"begin 1 5 2 s none", "bytes alice a 00", "bytes alice a 01", "bytes alice a 02", "give 3 bob"}, "bytes 1 3 02"},
		{"far ahead of room", []string{"begin 1 1 1 s none", "bytes alice a 00", "bytes alice a 01", "bytes alice a 02", "give 3 bob"}, "refused 4 133 1 0"},
		{"the chain ahead is far", []string{"begin 1 1 9 s none", "bytes alice a 00", "give 1 bob", "bytes alice a 01", "bytes alice a 02", "bytes bob b 00", "give 4 alice", "bytes alice c 03", "give 5 bob"}, "refused 4 133 2 0"},
		{"the chain ahead is near", []string{"begin 1 2 9 s none", "bytes alice a 00", "give 1 bob", "bytes alice a 01", "bytes alice a 02", "bytes bob b 00", "give 4 alice", "bytes alice c 03", "give 5 bob"}, "bytes 2 3 03"},
		{"both chains find no room", []string{"begin 1 5 2 s none", "bytes alice a 00", "give 1 bob", "bytes alice a 01", "bytes alice a 02", "bytes bob b 00", "give 4 alice", "bytes alice c 03", "bytes alice c 04", "give 6 bob"}, "refused 4 120 2 0"},
		{"both chains find room", []string{"begin 1 5 3 s none", "bytes alice a 00", "give 1 bob", "bytes alice a 01", "bytes alice a 02", "bytes bob b 00", "give 4 alice", "bytes alice c 03", "bytes alice c 04", "give 6 bob"}, "bytes 2 4 04"},
		{"in order, with nothing skipped", []string{"begin 1 0 0 s none", "bytes alice a 00", "give 1 bob", "save bob x", "bytes bob b 00", "give 2 alice", "bytes alice c 01", "give 3 bob", "bytes bob d 02", "give 4 alice"}, "bytes 2 1 02"},
		{"no pair yet", []string{"begin 1 5 9 s none", "save alice x", "bytes alice a 00", "give 1 bob", "bytes bob b 00", "load alice x", "give 2 alice"}, "refused 4 130 1 0"},
		{"another chain's body", []string{"begin 1 5 9 s none", "save alice x", "bytes alice a 00", "give 1 bob", "load alice x", "bytes alice b 00", "bytes alice b 01", "bytes alice b 02", "give 4 bob"}, "refused 5 135 1 2"},
		{"another chain's spare", []string{"begin 1 5 9 s none", "save alice x", "bytes alice a 00", "bytes alice a 01", "give 2 bob", "load alice x", "bytes alice b 00", "give 3 bob"}, "refused 5 135 1 0"},
		{"another pair of two that came ahead", []string{"begin 1 5 9 s none", "save alice x", "bytes alice y 00", "load alice x", "bytes alice z 00", "load alice x", "bytes alice a 00", "give 3 bob", "bytes bob b 00", "give 4 alice", "save alice x", "bytes alice y 00", "load alice x", "bytes alice z 00", "bytes alice z 01", "give 5 bob", "give 7 bob"}, "refused 5 135 1 1"},
		{"another root", []string{"begin 1 5 9 s none", "save alice x", "bytes alice a 00", "give 1 bob", "bytes bob b 00", "load alice x", "bytes alice c 00", "give 2 alice"}, "refused 5 135 1 1"},
		{"the same key once more", []string{"begin 1 5 9 s none", "save alice x", "bytes alice a 00", "load alice x", "bytes alice a 01", "give 2 bob"}, "bytes 1 1 01"},
		{"one's own", []string{"begin 1 5 9 s none", "bytes alice a 00", "give 1 alice"}, "refused 3 132 1 0"},
		{"old, behind its chain", []string{"begin 1 5 9 s none", "bytes alice a 00", "bytes alice a 01", "bytes alice a 02", "give 2 bob", "bytes bob b 00", "give 4 alice", "bytes alice c 03", "give 5 bob", "give 2 bob"}, "refused 4 134 1 0"},
		{"no candidate any more", []string{"begin 1 5 9 s none", "bytes alice a 00", "give 1 bob", "bytes bob b 00", "give 2 alice", "bytes alice c 03", "give 3 bob", "give 1 bob"}, "refused 3 132 2 0"},
		{"another extra", []string{"begin 1 5 9 s none", "bytes alice a 00", "bytes alice a 01", "extra 2 00 bob"}, "refused 5 135 1 2"},
		{"another extra of an old one", []string{"begin 1 5 9 s none", "bytes alice a 00", "give 1 bob", "extra 1 00 bob"}, "refused 4 134 1 0"},
		{"another extra of a spare", []string{"begin 1 5 9 s none", "bytes alice a 00", "bytes alice a 01", "give 2 bob", "extra 1 00 bob"}, "refused 5 135 1 0"},
		{"another extra of one too far", []string{"begin 1 0 9 s none", "bytes alice a 00", "bytes alice a 01", "extra 2 00 bob"}, "refused 4 133 1 0"},
	} {
		text := script(x.lines...)
		n := len(x.lines)
		if got := runs(t, text)[n-1]; got != x.last {
			t.Fatalf("%s: %s, not %s", x.name, got, x.last)
		}
		w := strings.Split(x.last, " ")
		for i := 1; i < len(w); i++ {
			if w[0] == "bytes" && i == 3 {
				continue
			}
			near := slices.Clone(w)
			near[i] = fmt.Sprint(num(w[i]) + 1)
			rule := 6
			if beyond(x.lines[0], near) {
				rule = 4
			}
			bends(t, text, n, rule, strings.Join(near, " "))
		}
		if w[0] == "refused" {
			bends(t, text, n, 6, "bytes 1 1 00", "refused 2 71 0 0")
		}
		// Whatever was refused changed nothing, and what was heard is heard no more.
		after := text + script("look bob", "look alice", "save bob y", "save alice z", "bytes alice q ff", "bytes bob q ff", x.lines[n-1])
		right(t, after, runs(t, after))
	}
}

// A bit that is turned, at each byte of an envelope: the chapter's places.
func TestTurned(t *testing.T) {
	for version := 1; version <= 2; version++ {
		for _, n := range []int{0, 125} {
			size, why := envelope.Length(version, n)
			must(why == api.OK)
			bucket, why := envelope.Bucket(version, n)
			must(why == api.OK)
			lines := []string{fmt.Sprintf("begin %d 5 9 s none", version), "bytes alice a " + tohex(make([]byte, n))}
			var want []string
			for i := range size {
				lines = append(lines, fmt.Sprintf("turn 1 %d bob", 8*i+i%8))
				switch {
				case i >= 4 && i <= 19, i >= 22 && i <= 81:
					want = append(want, "refused 3 132 1 0")
				case i >= size-bucket-16:
					want = append(want, "refused 5 135 1 1")
				default:
					want = append(want, "refused 2 ")
				}
			}
			text := script(lines[:min(len(lines), 400)]...)
			answers := runs(t, text)
			right(t, text, answers)
			for i, a := range answers[2:] {
				if !strings.HasPrefix(a, want[i]) {
					t.Fatalf("the byte %d of %d: %s, not %s", i, size, a, want[i])
				}
				for _, x := range []string{"refused 3 132 1 0", "refused 5 135 1 1", "refused 2 999 0 0"} {
					told := other(answers, 3+i, x)
					if strings.HasPrefix(x, want[i]) {
						checks(t, text, traceOf(t, text, told), 0, 0, api.OK)
					} else {
						checks(t, text, traceOf(t, text, told), 6, 3+i, api.OK)
					}
				}
			}
		}
	}
	// The bits of all bytes are counted round.
	text := script(begun, "bytes alice a 00", "turn 1 1311 bob", "turn 1 1312 bob", "turn 1 1352 bob", "turn 1 999999999 bob", "turn 1 0 alice", "turn 1 40 alice", "turn 1 1311 alice")
	bends(t, text, 3, 6, "refused 2 71 0 0", "refused 3 132 1 0", "bytes 1 1 00")
	bends(t, text, 4, 6, "refused 5 135 1 1", "refused 3 132 1 0")
	bends(t, text, 5, 6, "refused 5 135 1 1", "refused 2 71 0 0")
}

// What is cut, and what is joined: whole, or no envelope any more.
func TestCutAndJoined(t *testing.T) {
	for _, x := range []struct {
		way  string
		torn bool
	}{
		{"cut 1 163 bob", true}, {"cut 1 164 bob", false}, {"cut 1 165 bob", false}, {"cut 1 999999999 bob", false}, {"cut 1 0 bob", true}, {"cut 1 82 bob", true}, {"cut 1 1 bob", true},
		{"join 1 - bob", false}, {"join 1 00 bob", true}, {"join 1 2a00 bob", true}, {"extra 1 - bob", false},
	} {
		text := script(begun, "bytes alice a 00", x.way, "give 1 bob", "look bob")
		if x.torn {
			bends(t, text, 3, 0, "refused 2 0 0 0", "refused 2 999 0 0")
			bends(t, text, 3, 6, "bytes 1 1 00", "refused 5 135 1 1", "refused 3 132 1 0", "refused 2 71 0 1", "refused 2 71 1 0", "refused 0 71 0 0")
			bends(t, text, 4, 6, "refused 4 134 1 0")
		} else {
			bends(t, text, 3, 6, "refused 2 71 0 0", "refused 5 135 1 1", "bytes 1 1 01")
			bends(t, text, 4, 6, "bytes 1 1 00")
		}
	}
}
