package audit_test

import (
	"fmt"
	"slices"
	"strings"
	"testing"

	"pawl/api"
	"pawl/lab"
)

// P17.1: which two texts are looked at.

const begun = "begin 1 5 9 s none"

// A script with a fault, whatever the trace is.
func TestScripts(t *testing.T) {
	fine, _ := lab.Run(begun)
	many := script(append([]string{begun}, strings.Split(strings.Repeat("look bob\n", 400), "\n")[:400]...)...)
	for _, text := range []string{
		"look bob\n", "begin 3 5 9 s none", begun + "\n" + begun, begun + "\nsend alice a text hi", begun + "\nturn 1 bob", begun + "\nunknown",
		begun + "\n#" + strings.Repeat(" ", api.MaxLine), strings.Repeat("\n", api.MaxScript+1), many, begun + "\r\n", "begin 1 5 9 s none\xff",
	} {
		if _, err := lab.Parse(text); err == nil {
			t.Fatalf("%q is a script", text[:20])
		}
		for _, trace := range []string{"", "\n", fine, "1 begun\n", "x", strings.Repeat("1 \n", 401)} {
			checks(t, text, trace, 0, 0, api.ErrScript)
		}
	}
}

// At the limits a script is one.
func TestScriptsAtLimits(t *testing.T) {
	lines := append([]string{begun}, strings.Split(strings.Repeat("look bob\n", 399), "\n")[:399]...)
	text := script(lines...)
	text += strings.Repeat("\n", api.MaxScript-len(text))
	right(t, text, runs(t, text))
	text = script("#" + strings.Repeat(" ", api.MaxLine-1))
	checks(t, text, "", 0, 0, api.OK)
	checks(t, text, "\n", 0, 0, api.ErrTrace)
}

// Scripts without a command have the empty trace alone.
func TestNothing(t *testing.T) {
	for _, text := range []string{"", "\n", "# nothing", "  \n\n#\n"} {
		checks(t, text, "", 0, 0, api.OK)
		for _, trace := range []string{"\n", " ", "1 begun\n", "0 \n"} {
			checks(t, text, trace, 0, 0, api.ErrTrace)
		}
	}
}

// A trace has a line for each command, each with its number and its end.
func TestTraces(t *testing.T) {
	text := "\n" + script(begun, "# none", "look bob", "", "look alice", "", "", "", "", "look bob")
	answers := runs(t, text)
	whole := traceOf(t, text, answers)
	lines := strings.SplitAfter(whole, "\n")[:4]
	checks(t, text, whole, 0, 0, api.OK)
	if !strings.HasPrefix(lines[0], "2 ") || !strings.HasPrefix(lines[1], "4 ") || !strings.HasPrefix(lines[3], "11 ") {
		t.Fatalf("the trace is %q", whole)
	}
	for n := range len(whole) {
		checks(t, text, whole[:n], 0, 0, api.ErrTrace)
	}
	for _, more := range []string{"\n", "x", " ", "12 look 0 0 0 0 0\n", "11 look 0 0 0 0 0\n", "12 ", "\x00"} {
		checks(t, text, whole+more, 0, 0, api.ErrTrace)
	}
	for i, line := range lines {
		number, answer, _ := strings.Cut(line, " ")
		for _, with := range []string{
			"", "\n", " \n", answer, " " + answer, number + answer, number + "\n", number + "\t" + answer, " " + line, "0" + line, "+" + line, "\t" + line,
			number + "." + answer, fmt.Sprintf("%d %s", i+1, answer), fmt.Sprintf("%d %s", num(number)+1, answer), fmt.Sprintf("%d0 %s", num(number), answer),
			number + "\r " + answer, "\n" + line, line + line, strings.TrimSuffix(line, "\n") + "\r", strings.Replace(line, "\n", "\x00", 1),
		} {
			changed := slices.Clone(lines)
			changed[i] = with
			if with == fmt.Sprintf("%d %s", i+1, answer) && num(number) == i+1 {
				continue
			}
			checks(t, text, strings.Join(changed, ""), 0, 0, api.ErrTrace)
		}
		swapped := slices.Clone(lines)
		swapped[i], swapped[(i+1)%4] = swapped[(i+1)%4], swapped[i]
		checks(t, text, strings.Join(swapped, ""), 0, 0, api.ErrTrace)
	}
	// What is no trace is told ahead of any rule.
	checks(t, text, "2 x\n4 x\n6 x\n12 x\n", 0, 0, api.ErrTrace)
	checks(t, text, "2 x\n4 x\n6 x\n11 x", 0, 0, api.ErrTrace)
	checks(t, text, "2 x\n4 x\n6 x\n11 x\n", 1, 1, api.OK)
}

// The line that is told is the trace's, whatever the number is that stands there.
func TestLineIsTheTraces(t *testing.T) {
	text := "#\n#\n#\n" + script(begun, "", "look bob", "# x", "", "look alice")
	answers := runs(t, text)
	judged(t, text, other(answers, 3, "look 0 0 0 0 0"), 7, 3)
	judged(t, text, other(answers, 1, "begun"), 1, 1)
}

// Any bytes may be handed in.
func TestAnyTexts(t *testing.T) {
	d := newDrawer(1710)
	for range 400 {
		a, b := string(d.bytes(d.Intn(60))), string(d.bytes(d.Intn(60)))
		agrees(t, a, b)
		agrees(t, begun, "1 "+b)
		agrees(t, begun, "1 "+b+"\n")
		agrees(t, script(begun, "look bob"), "1 begun"+group+"\n2 "+b+"\n")
	}
}

// Answers that go on and on: they are refused by their form, or are believed.
func TestGreatAnswers(t *testing.T) {
	text := script(begun, "forge 00 bob", "look bob")
	answers := runs(t, text)
	long := strings.Repeat("ab", 1<<21)
	for _, x := range []struct {
		answer string
		rule   int
	}{
		{"bytes 1 1 " + long, 0}, {"bytes 1 1 " + long + "a", 1}, {`heard 1 1 text "` + long + `"`, 1}, {"refused 2 81 0 " + strings.Repeat("1", 1<<21), 1},
		{`heard 1 1 text "` + strings.Repeat(`\\`, 1<<20) + `"`, 1}, {`heard 1 1 text "` + strings.Repeat(`\u{e9}`, 1<<19) + `"`, 1}, {"heard 1 1 came" + strings.Repeat(" 1", 1<<20), 1},
		{"refused" + strings.Repeat(" 1", 1<<20), 1}, {strings.Repeat(" ", 1<<22), 1},
		{`heard 1 1 text "` + strings.Repeat("x", api.MaxText) + `"`, 0}, {`heard 1 1 text "` + strings.Repeat("x", api.MaxText+1) + `"`, 1},
	} {
		at := 0
		if x.rule > 0 {
			at = 2
		}
		checks(t, text, traceOf(t, text, other(answers, 2, x.answer)), x.rule, at, api.OK)
	}
}
