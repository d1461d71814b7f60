package audit_test

import (
	"fmt"
	"slices"
	"strings"
	"sync"
	"testing"

	"pawl/api"
	"pawl/audit"
	"pawl/lab"
)

// P17.2, and P10 of the whole: every trace that the lab writes is right.
func TestEveryTrace(t *testing.T) {
	d := newDrawer(1700)
	count := map[string]int{}
	for round := range 60 {
		text, answers := d.script(120, round%3 == 0)
		trace, err := lab.Run(text)
		if err != nil || trace != traceOf(t, text, answers) {
			t.Fatalf("%v: the lab tells\n%s, the sessions tell\n%s", err, trace, traceOf(t, text, answers))
		}
		checks(t, text, trace, 0, 0, api.OK)
		for _, a := range answers {
			w := strings.Split(a, " ")
			count[w[0]]++
			if w[0] == "refused" {
				count[strings.Join(w[:3], " ")]++
			}
		}
	}
	for _, a := range []string{"sent", "heard", "bytes", "forgot", "saved", "loaded", "export", "look", "missing", "refused 3 132", "refused 4 120", "refused 4 131", "refused 4 133", "refused 4 134", "refused 5 135"} {
		if count[a] < 20 {
			t.Errorf("%s was told %d times", a, count[a])
		}
	}
}

// The longest scripts: as many commands as there may be, with as many spares as come of them.
func TestLongTraces(t *testing.T) {
	for version := 1; version <= 2; version++ {
		lines := []string{fmt.Sprintf("begin %d 1000 2000 s once", version)}
		for i := range 300 {
			lines = append(lines, fmt.Sprintf("bytes alice a%d ff%04x", i, i))
		}
		for i := range 99 {
			switch {
			case i%3 == 2:
				lines = append(lines, "save bob x")
			case i%3 == 1:
				lines = append(lines, "export bob")
			default:
				lines = append(lines, fmt.Sprintf("give %d bob", 300-(i*i)%300))
			}
		}
		text := script(lines...)
		right(t, text, runs(t, text))
	}
	d := newDrawer(1701)
	for range 3 {
		text, answers := d.script(400, false)
		right(t, text, answers)
	}
}

// Many chains, each with spares: the headers that are tried are many.
func TestManyHeaders(t *testing.T) {
	lines := []string{"begin 1 5 2000 s none", "bytes alice a ff", "give 1 bob"}
	sent := 1
	for i := range 40 {
		for range 2 { // the first of each chain is late
			lines = append(lines, fmt.Sprintf("bytes bob b%d ff01", i))
		}
		lines = append(lines, fmt.Sprintf("give %d alice", sent+2))
		for range 2 {
			lines = append(lines, fmt.Sprintf("bytes alice a%d ff02", i))
		}
		lines = append(lines, fmt.Sprintf("give %d bob", sent+4))
		sent += 4
	}
	for k := 2; k < sent && len(lines) < 396; k += 3 {
		lines = append(lines, fmt.Sprintf("give %d %s", k, []string{"alice", "bob"}[k%2]), fmt.Sprintf("turn %d 40 alice", k))
	}
	text := script(append(lines, "look alice", "look bob", "export alice")...)
	answers := runs(t, text)
	right(t, text, answers)
	if !slices.ContainsFunc(answers, func(a string) bool { return strings.HasPrefix(a, "refused 3 132 4") }) {
		t.Error("nobody tried forty headers")
	}
}

// likeAnswer is an answer of the same form as another one, as a rule, and mostly another one.
func (d drawer) likeAnswer(answer string) string {
	w := strings.Split(answer, " ")
	i := d.Intn(len(w))
	last := len(w) - 1
	switch {
	case w[0] == "export" && d.coin():
		return strings.Join(w[:2], " ") + " " + strings.Repeat(d.one("0", "f"), 64)
	case w[0] == "bytes" && d.Intn(3) == 0:
		w[last] = d.one("-", "00", w[last]+"00", strings.TrimSuffix(w[last], "00"))
	case w[0] == "heard" && d.Intn(3) == 0:
		return strings.Join(w[:3], " ") + " " + d.content()
	case i > 0 && w[i] != "" && len(w[i]) < 9 && strings.Trim(w[i], "0123456789") == "":
		w[i] = fmt.Sprint(max(0, num(w[i])+d.Intn(7)-3))
	}
	return strings.Join(w, " ")
}

// bentAnswer is another answer than the one at that place, or something that looks like one.
func (d drawer) bentAnswer(answers []string, at int) string {
	w := strings.Split(answers[at], " ")
	i := d.Intn(len(w))
	switch d.Intn(36) {
	case 0:
		w[i] = d.one("0", "1", "2", "3", "4", "131", "134", "164", "-", "")
	case 1:
		w[i] = d.one(d.number(), "0"+w[i], w[i]+"0", "9999999999", "10000000000")
	case 2:
		w = slices.Delete(w, i, i+1)
	case 3:
		w = slices.Insert(w, i, d.one("0", "1", "", w[i]))
	case 4:
		const some = "0123456789abcdef -xyz\"\\\r\x00\xff"
		b, c := answers[at], d.Intn(len(some))
		p := d.Intn(len(b) + 1)
		return b[:p] + some[c:c+1] + b[min(p+d.Intn(2), len(b)):]
	case 5:
		return answers[d.Intn(len(answers))]
	case 6:
		return d.one("missing", "refused 4 131", "sent 1 164", `heard 1 1 text "x"`, "bytes 1 1 00", "loaded 160", "saved 160", "forgot 0", "look 0 0 0 0 0", "", "begun", "export 160 "+strings.Repeat("0", 64))
	case 7:
		return d.one("refused 2 71 0 0", "refused 3 132 1 0", "refused 3 132 2 0", "refused 4 134 1 0", "refused 5 135 1 1", "bytes 2 1 -", `heard 1 0 text "hi"`)
	case 8:
		return d.one("refused 2 71 "+d.number()+" 0", "refused 2 71 0 "+d.number(), "bytes "+d.number()+" 0 00", "heard 0 "+d.number()+" timer 5")
	default:
		return d.likeAnswer(answers[at])
	}
	return strings.Join(w, " ")
}

// believed is an answer to a command that is believed, if there is one, of which a side becomes unknown.
func (d drawer) believed(command string) (string, bool) {
	switch command {
	case "forge":
		return d.one(`heard 1 1 text "x"`, "bytes 1 0 00"), true
	case "import":
		return "loaded " + d.number(), true
	}
	return "", false
}

// Traces that were bent somewhere, held against the words; by P17.4 the lines behind a broken one may be any.
func TestBentTraces(t *testing.T) {
	d := newDrawer(1702)
	var count [9]int
	for round := range 300 {
		text, answers := d.script(10+d.Intn(50), round%2 == 0)
		list, _ := lab.Parse(text)
		for range 5 {
			told := slices.Clone(answers)
			for i, c := range list {
				if a, is := d.believed(c.Word); is && d.Intn(3) == 0 {
					told[i] = a
				}
			}
			for range 1 + d.Intn(3) {
				at := d.Intn(len(told))
				told[at] = d.bentAnswer(told, at)
			}
			rule, at := agrees(t, text, traceOf(t, text, told))
			count[rule]++
			if rule == 0 {
				continue
			}
			for i := at; i < len(told); i++ {
				told[i] = d.one(d.bentAnswer(answers, i), "", "\x00\xff", `heard 1 1 text "x"`, told[i])
			}
			checks(t, text, traceOf(t, text, told), rule, at, api.OK)
		}
	}
	for rule, n := range count {
		if n < 5 {
			t.Errorf("the rule %d was told %d times", rule, n)
		}
	}
}

// P17.3: each beginning is right.
func TestBeginnings(t *testing.T) {
	d := newDrawer(1703)
	for round := range 8 {
		text, answers := d.script(60, round%2 == 0)
		trace := traceOf(t, text, answers)
		list, _ := lab.Parse(text)
		lines, told := strings.SplitAfter(text, "\n"), strings.SplitAfter(trace, "\n")
		for n := range len(list) + 1 {
			end := 0
			if n > 0 {
				end = list[n-1].Line
			}
			checks(t, strings.Join(lines[:end], ""), strings.Join(told[:n], ""), 0, 0, api.OK)
			checks(t, strings.TrimSuffix(strings.Join(lines[:end], ""), "\n"), strings.Join(told[:n], ""), 0, 0, api.OK)
			if n < len(list) {
				checks(t, strings.Join(lines[:end], ""), strings.Join(told[:n+1], ""), 0, 0, api.ErrTrace)
			}
		}
	}
}

// P17.3: lines that are no command play no part but for the numbers of the others.
func TestNoCommands(t *testing.T) {
	d := newDrawer(1704)
	for round := range 30 {
		text, answers := d.script(40, round%2 == 0)
		if d.coin() {
			at := d.Intn(len(answers))
			answers[at] = d.bentAnswer(answers, at)
		}
		rule, at := agrees(t, text, traceOf(t, text, answers))
		var lines []string
		for _, line := range strings.Split(text, "\n") {
			for range d.Intn(3) {
				lines = append(lines, d.one("", " ", "#", "# give 1 bob", "   # begin 1 5 9 s none", "#\xff\x00"))
			}
			lines = append(lines, line)
		}
		wider := script(lines...)
		checks(t, wider, traceOf(t, wider, answers), rule, at, api.OK)
		if wider != text {
			checks(t, "#\n"+wider, traceOf(t, wider, answers), 0, 0, api.ErrTrace)
		}
	}
}

// P17.3: it hangs on the two texts alone, whatever is asked ahead of it or at the same time.
func TestTextsAlone(t *testing.T) {
	d := newDrawer(1705)
	type pair struct {
		text, trace string
		rule, at    int
	}
	var all []pair
	for round := range 12 {
		text, answers := d.script(60, true)
		if round%2 == 0 {
			at := d.Intn(len(answers))
			answers[at] = d.bentAnswer(answers, at)
		}
		trace := traceOf(t, text, answers)
		rule, at := agrees(t, text, trace)
		all = append(all, pair{text, trace, rule, at})
	}
	var together sync.WaitGroup
	for range 4 {
		order := d.Perm(len(all))
		together.Go(func() {
			for _, i := range order {
				if rule, at, why := audit.Check(all[i].text, all[i].trace); rule != all[i].rule || at != all[i].at || why != api.OK {
					t.Errorf("number %d: %d, %d, %v", i, rule, at, why)
				}
			}
		})
	}
	together.Wait()
}
