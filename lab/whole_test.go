package lab_test

import (
	"fmt"
	"slices"
	"strconv"
	"strings"
	"testing"

	"pawl/api"
	"pawl/envelope"
	"pawl/lab"
)

// P16.4, P16.6, P16.7, and of the whole P3, P4, P5 and P6: what scripts and their traces come to, seen from outside.

// runs is the trace of lines that must be a script.
func runs(t *testing.T, lines []string) string {
	t.Helper()
	trace, err := lab.Run(strings.Join(lines, "\n"))
	if err != nil {
		t.Fatalf("%v of %q", err, lines)
	}
	return trace
}

// isCommand tells whether a line is a command.
func isCommand(line string) bool {
	line = strings.TrimLeft(line, " ")
	return line != "" && line[0] != '#'
}

// P16.4
func TestBeginnings(t *testing.T) {
	d := newDrawer(1630)
	for range 6 {
		lines := append([]string{"", "# ahead"}, d.script(30)...)
		whole := runs(t, lines)
		commands := 0
		for n := range len(lines) + 1 {
			if n > 0 && isCommand(lines[n-1]) {
				commands++
			}
			trace := runs(t, lines[:n])
			if !strings.HasPrefix(whole, trace) || strings.Count(trace, "\n") != commands {
				t.Fatalf("the first %d lines tell\n%s, all tell\n%s", n, trace, whole)
			}
			if again := runs(t, append(slices.Clone(lines[:n]), "")); again != trace {
				t.Fatalf("with a line feed at the end it tells\n%s, not\n%s", again, trace)
			}
		}
	}
}

// byLine is what each line of a trace tells, under its number.
func byLine(t *testing.T, trace string) map[int]string {
	t.Helper()
	numbers, answers := told(t, trace)
	out := map[int]string{}
	for i, n := range numbers {
		out[n] = answers[i]
	}
	return out
}

// P16.6: between each two commands there is room for a save and a load of one side.
func TestAlike(t *testing.T) {
	d := newDrawer(1631)
	for range 12 {
		var lines []string
		for _, line := range d.script(40) {
			lines = append(lines, line, "", "# room", "   ")
		}
		was := byLine(t, runs(t, lines))
		other := slices.Clone(lines)
		names := map[int]bool{}
		for i := 1; i < len(lines); i += 4 {
			if d.coin() {
				continue
			}
			// One name for each side, or one for all: it stands nowhere else.
			side := d.one("alice", "bob")
			name := d.one("kept", "other"+side)
			at := i + d.Intn(2)
			other[at], other[at+1] = "save "+side+" "+name, " load "+side+"  "+name
			if d.coin() {
				other[i], other[i+1], other[i+2] = "save "+side+" "+name, "", "load "+side+" "+name
			}
			names[i] = true
		}
		got := byLine(t, runs(t, other))
		for n, answer := range was {
			if got[n] != answer {
				t.Fatalf("the line %d tells %q, not %q", n, got[n], answer)
			}
		}
		if len(got) != len(was)+2*len(names) || len(names) < 5 {
			t.Fatalf("%d lines, not %d and %d", len(got), len(was), 2*len(names))
		}
		for n, answer := range got {
			if _, old := was[n]; !old && !strings.HasPrefix(answer, "saved ") && !strings.HasPrefix(answer, "loaded ") {
				t.Fatalf("the line %d tells %q", n, answer)
			}
		}
	}
}

// P16.7: all that were refused or missing, or some of them, are left out.
func TestLeftOut(t *testing.T) {
	d := newDrawer(1632)
	left := 0
	for round := range 16 {
		lines := d.script(60)
		was := byLine(t, runs(t, lines))
		other := slices.Clone(lines)
		out := map[int]bool{}
		for n, answer := range was {
			if (strings.HasPrefix(answer, "refused ") || answer == "missing") && (round%2 == 0 || n%3 > 0) {
				other[n-1], out[n] = "# "+lines[n-1], true
			}
		}
		left += len(out)
		got := byLine(t, runs(t, other))
		for n, answer := range was {
			if !out[n] && got[n] != answer {
				t.Fatalf("the line %d tells %q, not %q", n, got[n], answer)
			}
		}
		if len(got) != len(was)-len(out) {
			t.Fatalf("%d lines, not %d less %d", len(got), len(was), len(out))
		}
	}
	if left < 100 {
		t.Errorf("only %d were left out", left)
	}
}

// talk is a script of two over a bad network, with an export of the side that each command is about ahead of it and behind it.
func (d drawer) talk(c api.Config, near int) []string {
	lines := []string{fmt.Sprintf("begin %d %d %d %s once", c.Version, c.Skip, c.Store, d.seed())}
	owner := []string{""} // who sent the envelope of that number
	spoke := false        // Bob is silent until he has heard something
	for len(lines) < 380 {
		side, peer := "alice", "bob"
		if d.coin() {
			side, peer = peer, side
		}
		k := max(1, len(owner)-1-d.Intn(near))
		var line string
		switch {
		case d.Intn(5) < 2 && (side == "alice" || spoke):
			line = "bytes " + side + " " + d.seed() + " " + tohex(append([]byte{0xff, byte(len(owner))}, d.bytes(d.Intn(90))...))
			owner = append(owner, side)
		case k < len(owner) && owner[k] == peer && d.Intn(5) > 0:
			line = fmt.Sprintf("give %d %s", k, side)
		case k < len(owner) && owner[k] == peer:
			line = d.one(fmt.Sprintf("turn %d %s %s", k, d.number(), side), fmt.Sprintf("cut %d %d %s", k, d.Intn(300), side),
				fmt.Sprintf("join %d %s %s", k, d.hex(), side), fmt.Sprintf("extra %d 00%x %s", k, d.bytes(3), side), fmt.Sprintf("forge %s %s", d.hex(), side))
		default:
			continue
		}
		spoke = spoke || side == "bob" && strings.HasPrefix(line, "give 1 ")
		lines = append(lines, "export "+side, line, "export "+side, "look "+side)
	}
	return lines
}

// listener is what the trace has told of a side: which envelopes it took, and whether one was refused for its distance.
type listener struct {
	took map[int]bool
	far  bool
}

// judge holds a talk's trace against P3, P4, P5 and P6; it answers how many were taken and how many refused.
func judge(t *testing.T, c api.Config, lines, answers []string) (taken, refused int) {
	t.Helper()
	plain := map[int]string{}
	sides := map[string]*listener{"alice": {took: map[int]bool{}}, "bob": {took: map[int]bool{}}}
	for i := 1; i+3 < len(lines); i += 4 {
		w, a := strings.Fields(lines[i+1]), strings.Fields(answers[i+1])
		spares, _ := strconv.Atoi(strings.Fields(answers[i+3])[4])
		if spares > c.Store {
			t.Fatalf("%s: %d spares", lines[i+1], spares)
		}
		if a[0] == "refused" {
			refused++
			if answers[i] != answers[i+2] {
				t.Fatalf("%s: %s, and the export is another one", lines[i+1], answers[i+1])
			}
		}
		if w[0] == "bytes" {
			if a[0] != "sent" {
				t.Fatalf("%s: %s", lines[i+1], answers[i+1])
			}
			plain[num(a[1])] = w[3]
			if length, why := envelope.Length(c.Version, len(w[3])/2); why != api.OK || a[2] != strconv.Itoa(length) {
				t.Fatalf("%s: %s, not %d bytes", lines[i+1], answers[i+1], length)
			}
			continue
		}
		works := a[1:3]
		if a[0] == "refused" {
			works = a[3:5]
		}
		if num(works[0]) > c.Store+2 || num(works[1]) > 2*c.Skip+1 {
			t.Fatalf("%s: %s", lines[i+1], answers[i+1])
		}
		if sides[w[len(w)-1]].hears(t, lines[i+1], answers[i+1], plain) {
			taken++
		}
	}
	return taken, refused
}

// hears holds one answer against P3 and P5: whether something was taken.
func (s *listener) hears(t *testing.T, line, answer string, plain map[int]string) bool {
	t.Helper()
	w, a := strings.Fields(line), strings.Fields(answer)
	if w[0] == "forge" {
		if a[0] != "refused" {
			t.Fatalf("%s: %s", line, answer)
		}
		return false
	}
	k := num(w[1])
	switch {
	case a[0] == "bytes" && (s.took[k] || a[3] != plain[k]):
		t.Fatalf("%s: %s, which was taken already, or is another one than %s", line, answer, plain[k])
	case a[0] == "bytes" && (w[0] == "turn" || w[0] == "extra"):
		t.Fatalf("%s: %s", line, answer)
	case a[0] == "bytes":
		s.took[k] = true
		return true
	case a[0] != "refused":
		t.Fatalf("%s: %s", line, answer)
	case a[2] == "133" || a[2] == "120":
		s.far = true
	case w[0] == "give" && !s.took[k] && !s.far:
		t.Fatalf("%s: %s, not %s", line, answer, plain[k])
	}
	return false
}

// P3, P4, P5 and P6 over raw scripts.
func TestTalks(t *testing.T) {
	d := newDrawer(1633)
	all, none, far := 0, 0, 0
	for round := range 24 {
		c := api.Config{Version: 1 + round%2, Skip: api.MaxSkip, Store: api.MaxStore}
		if round%3 == 0 {
			c.Skip, c.Store = 1+d.Intn(3), 1+d.Intn(5)
		}
		lines := d.talk(c, 6)
		_, answers := told(t, runs(t, lines))
		taken, refused := judge(t, c, lines, answers)
		all, none = all+taken, none+refused
		for _, a := range answers {
			if strings.HasPrefix(a, "refused 4 133") || strings.HasPrefix(a, "refused 4 120") {
				far++
			}
		}
	}
	if all < 300 || none < 300 || far < 50 {
		t.Errorf("%d were taken, %d refused, %d of them for their distance", all, none, far)
	}
}

// P3 and P5: all that were sent, in whatever order, each twice.
func TestAnyOrder(t *testing.T) {
	d := newDrawer(1634)
	const sent = 60
	for version := 1; version <= 2; version++ {
		lines := []string{fmt.Sprintf("begin %d %d %d s none", version, sent, sent), "bytes alice a ff00", "give 1 bob"}
		for i := range sent {
			lines = append(lines, fmt.Sprintf("bytes %s x%d ff%02x", []string{"alice", "bob"}[i%2], i, i))
		}
		for _, k := range append(d.Perm(sent), d.Perm(sent)...) {
			lines = append(lines, fmt.Sprintf("give %d %s", k+2, []string{"bob", "alice"}[k%2]))
		}
		_, answers := told(t, runs(t, lines))
		for i, line := range lines[3+sent:] {
			got := answers[3+sent+i]
			k := num(strings.Fields(line)[1]) - 2
			if i < sent && (!strings.HasPrefix(got, "bytes ") || !strings.HasSuffix(got, fmt.Sprintf(" ff%02x", k))) || i >= sent && !strings.HasPrefix(got, "refused 4 134 ") {
				t.Fatalf("%s, the first time %v: %s", line, i < sent, got)
			}
		}
	}
}
