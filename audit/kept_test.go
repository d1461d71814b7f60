package audit_test

import (
	"fmt"
	"slices"
	"strings"
	"testing"
)

// Rules 7 and 8: what is forgotten, looked at and laid down; and what is known of whom.

// Rule 7 of forget and look.
func TestForgotAndLook(t *testing.T) {
	text := script(begun, "forget bob 1", "bytes alice a 00", "bytes alice a 01", "bytes alice a 02", "bytes alice a 03", "give 4 bob", "look bob", "forget bob 0", "forget bob 2", "look bob", "give 3 bob", "give 1 bob", "forget bob 999999999",
		"look alice", "bytes bob b 00", "give 5 alice", "look alice", "bytes alice c 04", "look alice", "look bob")
	answers := runs(t, text)
	for line, want := range map[int]string{2: "forgot 0", 8: "look 0 0 4 3 1", 9: "forgot 0", 10: "forgot 2", 11: "look 0 0 4 1 1", 12: "bytes 1 0 02", 13: "refused 4 134 1 0", 14: "forgot 0", 15: "look 4 0 0 0 0", 18: "look 4 0 1 0 1", 20: "look 1 4 1 0 0", 21: "look 1 0 4 0 0"} {
		if answers[line-1] != want {
			t.Fatalf("the line %d tells %s, not %s", line, answers[line-1], want)
		}
		w := strings.Split(want, " ")
		for i := 1; i < len(w) && w[0] != "refused" && w[0] != "bytes"; i++ {
			near := slices.Clone(w)
			near[i] = fmt.Sprint(num(w[i]) + 1)
			if w[0] == "look" && i == 5 {
				near[i] = fmt.Sprint(1 - num(w[i]))
			}
			bends(t, text, line, 7, strings.Join(near, " "))
			near[i] = fmt.Sprint(4294967296 + num(w[i]))
			if i < 5 {
				bends(t, text, line, 7, strings.Join(near, " "))
			}
		}
	}
	// A spare that was forgotten is not heard; one that was not, is.
	bends(t, text, 13, 6, "bytes 1 0 00")
	bends(t, text, 12, 6, "refused 4 134 1 0")
}

// sizes: how many bytes a side has, in the answer of each such line.
func sizes(t *testing.T, text string, want map[int]int) {
	t.Helper()
	answers := runs(t, text)
	for line, n := range want {
		w := strings.Split(answers[line-1], " ")
		if num(w[1]) != n {
			t.Fatalf("the line %d tells %s, not %d", line, answers[line-1], n)
		}
		for _, m := range []int{n + 1, n - 1, 0, n + 74, n + 4294967296} {
			w[1] = fmt.Sprint(m)
			bends(t, text, line, 7, strings.Join(w, " "))
		}
	}
}

// Rule 7 of save, export and load: by chapter 15, of each kind of state.
func TestSizes(t *testing.T) {
	text := script("begin 1 5 7 s none", "save alice a", "export alice", "load alice a", "save bob b", "export bob", "bytes alice x 00", "save alice c", "give 1 bob", "save bob d", "bytes bob x 00", "export bob", "give 2 alice", "export alice", "load bob a", "load alice b", "load bob c", "load bob d", "export bob")
	// Fresh: 160 bytes with the peer, 35 fewer without it and 69 more with a pair. A chain has 74 more.
	sizes(t, text, map[int]int{2: 160, 3: 160, 4: 160, 5: 194, 6: 194, 8: 303, 10: 303, 12: 377, 14: 377, 15: 160, 16: 194, 17: 303, 18: 303, 19: 303})
	for _, x := range []struct{ skip, store, more int }{{0, 0, 0}, {127, 127, 0}, {128, 127, 1}, {127, 128, 1}, {1000, 2000, 2}} {
		for version := 1; version <= 2; version++ {
			text := script(fmt.Sprintf("begin %d %d %d s once", version, x.skip, x.store), "save alice a", "export bob")
			sizes(t, text, map[int]int{2: 160 + x.more, 3: 194 + x.more})
		}
	}
}

// Rule 7 of spares: each has 74 bytes, and their length one, two or three.
func TestSizesOfSpares(t *testing.T) {
	for spares, want := range map[int]int{0: 305, 1: 305 + 74, 2: 305 + 148 + 1, 221: 305 + 221*74 + 1, 222: 305 + 222*74 + 2, 300: 305 + 300*74 + 2} {
		lines := []string{"begin 1 1000 2000 s none"}
		for range spares + 1 {
			lines = append(lines, "bytes alice a ff")
		}
		lines = append(lines, fmt.Sprintf("give %d bob", spares+1), "save bob a", "export bob", "load bob a")
		n := len(lines)
		text := script(lines...)
		answers := runs(t, text)
		for _, line := range []int{n - 2, n - 1, n} {
			w := strings.Split(answers[line-1], " ")
			if num(w[1]) != want {
				t.Fatalf("%d spares: %s, not %d", spares, answers[line-1], want)
			}
			right(t, text, answers)
			w[1] = fmt.Sprint(want + 1)
			judged(t, text, other(answers, line, strings.Join(w, " ")), 7, line)
		}
	}
}

// Rule 8: sides that are alike export alike.
func TestAgain(t *testing.T) {
	text := script(begun, "export bob", "export alice", "export bob", "save bob x", "bytes alice a 00", "give 1 bob", "export bob", "load bob x", "export bob", "give 1 bob", "export bob", "load alice x", "export alice")
	answers := runs(t, text)
	right(t, text, answers)
	if answers[1] != answers[3] || answers[1] != answers[9] || answers[1] != answers[13] || answers[7] != answers[11] || answers[1] == answers[7] {
		t.Fatalf("the trace is %q", answers)
	}
	for _, line := range []int{4, 10, 12, 14} {
		size := strings.Split(answers[line-1], " ")[1]
		bends(t, text, line, 8, "export "+size+" "+sumHex)
		bends(t, text, line, 7, "export 1 "+sumHex)
	}
	// The first one may tell whichever, and then all others must; sides that are not alike may tell the same.
	same := slices.Clone(answers)
	for i, a := range same {
		if w := strings.Split(a, " "); w[0] == "export" {
			same[i] = w[0] + " " + w[1] + " " + sumHex
		}
	}
	right(t, text, same)
	judged(t, text, other(same, 4, answers[3]), 8, 4)
	judged(t, text, other(same, 14, answers[13]), 8, 14)
	judged(t, text, other(answers, 2, same[1]), 8, 4)
	right(t, text, other(answers, 3, same[2]))
}

// Rule 8: each thing by which sides are not alike, with one sum that is told of all but for the last.
func TestNotAlike(t *testing.T) {
	for name, lines := range map[string][]string{
		"turn and pair":        {"export alice", "bytes alice a 00", "export alice"},
		"the number sent":      {"bytes alice a 00", "export alice", "bytes alice a 00", "export alice"},
		"the number heard":     {"bytes alice a 00", "bytes alice a 00", "give 1 bob", "export bob", "give 2 bob", "export bob"},
		"spares":               {"bytes alice a 00", "bytes alice a 00", "bytes alice a 00", "give 3 bob", "export bob", "give 1 bob", "export bob"},
		"which spares":         {"bytes alice a 00", "bytes alice a 00", "bytes alice a 00", "give 3 bob", "save bob x", "give 1 bob", "export bob", "load bob x", "give 2 bob", "export bob"},
		"a spare forgotten":    {"bytes alice a 00", "bytes alice a 00", "bytes alice a 00", "give 3 bob", "save bob x", "forget bob 1", "export bob", "load bob x", "give 2 bob", "export bob"},
		"the seed":             {"save alice x", "bytes alice a 00", "export alice", "load alice x", "bytes alice b 00", "export alice"},
		"whose":                {"export alice", "export bob"},
		"the seed heard":       {"save alice x", "save bob y", "bytes alice a 00", "load alice x", "bytes alice b 00", "give 1 bob", "export bob", "load bob y", "give 2 bob", "export bob"},
		"Prev":                 {"bytes alice a 00", "give 1 bob", "bytes bob b 00", "save alice x", "give 2 alice", "bytes alice c 00", "export alice", "load alice x", "bytes alice a 00", "give 2 alice", "bytes alice c 00", "export alice"},
		"the chain of a spare": {"save alice x", "save bob y", "bytes alice a 00", "bytes alice a 00", "give 2 bob", "bytes bob c 00", "export bob", "load alice x", "load bob y", "bytes alice b 00", "bytes alice b 00", "give 5 bob", "bytes bob c 00", "export bob"},
	} {
		text := script(append([]string{begun}, lines...)...)
		answers := runs(t, text)
		right(t, text, answers)
		for i, a := range answers {
			if w := strings.Split(a, " "); w[0] == "export" {
				told := other(answers, i+1, w[0]+" "+w[1]+" "+sumHex)
				if rule, _ := agrees(t, text, traceOf(t, text, told)); rule != 0 {
					t.Errorf("%s: rule %d", name, rule)
				}
			}
		}
	}
}

// The other way round: what seems another side and is alike.
func TestAlike(t *testing.T) {
	for name, lines := range map[string][]string{
		"in another order": {"save bob x", "bytes alice a 00", "bytes alice a 01", "bytes alice a 02", "give 1 bob", "give 2 bob", "give 3 bob", "export bob", "load bob x", "give 3 bob", "give 1 bob", "give 2 bob", "export bob"},
		"over chains":      {"bytes alice a 00", "bytes alice a 01", "give 1 bob", "save bob x", "bytes bob b 00", "save bob x", "give 3 alice", "bytes alice c 02", "give 2 bob", "give 4 bob", "export bob", "load bob x", "give 4 bob", "give 2 bob", "export bob"},
		"the same seed":    {"save alice x", "bytes alice a 00", "export alice", "load alice x", "bytes alice a ffff", "export alice"},
		"other words":      {"save alice x", "send alice a timer 5", "export alice", "load alice x", "send alice a timer 6", "export alice", "load alice x", "bytes alice a 00", "export alice"},
		"refused between":  {"bytes alice a 00", "export bob", "turn 1 0 bob", "turn 1 40 bob", "extra 1 00 bob", "cut 1 9 bob", "give 9 bob", "export bob"},
		"the other's":      {"export alice", "save alice x", "load bob x", "export bob"},
		"a seed not used":  {"bytes alice a 00", "save alice x", "bytes alice b 00", "export alice", "load alice x", "bytes alice c 00", "export alice"},
	} {
		text := script(append([]string{begun}, lines...)...)
		answers := runs(t, text)
		right(t, text, answers)
		n := len(answers)
		w := strings.Split(answers[n-1], " ")
		if !slices.Contains(answers[:n-1], answers[n-1]) {
			t.Fatalf("%s: %q", name, answers)
		}
		judged(t, text, other(answers, n, w[0]+" "+w[1]+" "+sumHex), 8, n)
	}
}

// What is known of whom: how sides become unknown, and known again.
func TestKnown(t *testing.T) {
	const wrong = "look 9 9 9 9 0"
	loses := func(lines []string, told map[int]string, name string, lost bool) {
		t.Helper()
		text := script(append(append([]string{begun}, lines...), "look "+name)...)
		answers := runs(t, text)
		right(t, text, answers)
		for line, answer := range told {
			answers = other(answers, line, answer)
		}
		n := len(answers)
		if lost {
			right(t, text, other(answers, n, wrong))
		} else {
			judged(t, text, other(answers, n, wrong), 7, n)
		}
	}
	for _, heard := range []string{`heard 1 1 text "x"`, "bytes 1 1 00", "bytes 0 0 -"} {
		loses([]string{"forge 00 bob"}, map[int]string{2: heard}, "bob", true)
		loses([]string{"forge 00 bob"}, map[int]string{2: heard}, "alice", false)
		loses([]string{"forge 00 alice"}, map[int]string{2: heard}, "alice", true)
		// An unknown envelope, in whatever way it comes.
		for _, way := range []string{"give 1 bob", "turn 1 0 bob", "turn 1 40 bob", "cut 1 3 bob", "join 1 00 bob", "extra 1 00 bob"} {
			lines := []string{"import alice 00", "bytes alice a 00", way}
			loses(lines, map[int]string{2: "loaded 1", 3: "sent 1 9", 4: heard}, "bob", true)
			loses(lines, map[int]string{2: "loaded 1", 3: "sent 1 9", 4: "refused 9 9 9 9"}, "bob", false)
		}
	}
	loses([]string{"forge 00 bob"}, map[int]string{2: "refused 4 134 1 0"}, "bob", false)
	loses([]string{"import bob 00"}, map[int]string{2: "loaded 9"}, "bob", true)
	loses([]string{"import bob 00"}, map[int]string{2: "loaded 9"}, "alice", false)
	loses([]string{"import bob 00"}, map[int]string{2: "refused 1 1"}, "bob", false)
	// What was kept of a known side is known; of an unknown one it is not.
	loses([]string{"save bob x", "import bob 00", "load bob x"}, map[int]string{3: "loaded 9"}, "bob", false)
	loses([]string{"save bob x", "import bob 00", "load alice x"}, map[int]string{3: "loaded 9"}, "alice", false)
	loses([]string{"save bob x", "import bob 00", "load alice x"}, map[int]string{3: "loaded 9"}, "bob", true)
	loses([]string{"import bob 00", "save bob x", "load alice x"}, map[int]string{2: "loaded 9", 3: "saved 7", 4: "loaded 8"}, "alice", true)
	loses([]string{"save bob x", "import bob 00", "save bob x", "load alice x"}, map[int]string{3: "loaded 9", 4: "saved 0", 5: "loaded 1"}, "alice", true)
	loses([]string{"import bob 00", "save bob x", "save alice x", "load bob x"}, map[int]string{2: "loaded 9", 3: "saved 0"}, "bob", false)
	// A known envelope leaves a side as unknown as it was.
	loses([]string{"import bob 00", "bytes alice a 00", "give 1 bob"}, map[int]string{2: "loaded 9", 4: "bytes 1 1 00"}, "bob", true)
	loses([]string{"import bob 00", "bytes alice a 00", "give 1 bob"}, map[int]string{2: "loaded 9", 4: "bytes 1 1 00"}, "alice", false)
	loses([]string{"import bob 00", "bytes alice a 00", "give 1 bob"}, map[int]string{2: "loaded 9", 4: "refused 9 9 9 9"}, "bob", true)
}

// An envelope that a known side sent stays known, whatever becomes of the side; the others stay unknown.
func TestKnownEnvelopes(t *testing.T) {
	text := script(begun, "bytes alice a 00", "save alice x", "import alice 00", "bytes alice a 01", "load alice x", "bytes alice a 02", "give 1 bob", "give 2 bob", "give 3 bob")
	answers := runs(t, text)
	right(t, text, answers)
	told := append(slices.Clone(answers[:3]), "loaded 9", "sent 2 7", answers[5], answers[6], "bytes 1 1 00", "refused 9 9 0 0", "bytes 1 1 02")
	right(t, text, told)
	judged(t, text, other(told, 8, "bytes 1 1 01"), 6, 8)
	judged(t, text, other(told, 10, "bytes 1 2 02"), 6, 10)
	// The unknown one was heard, so nobody knows how far Bob is.
	told[8] = "bytes 1 1 ff"
	right(t, text, told)
	right(t, text, other(told, 10, "bytes 9 9 ff"))
}
