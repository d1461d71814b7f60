package audit_test

import (
	"fmt"
	"slices"
	"strings"
	"testing"
)

// Rule 1: the forms of answers. Behind these lines nobody knows the two, there is one envelope, and something is kept under the name a: so all that has a form is believed, unless it is missing or counts wrong.
var unknown = []string{begun, "import alice 00", "import bob 00", "bytes alice a 00", "save alice a"}

var unknownAnswers = []string{"begun" + group, "loaded 1", "loaded 9999999999", "sent 1 7", "saved 3"}

const (
	group  = " 00000 12345 99999 00001 10000 55555 98765 43210 11111 22222 33333 44444"
	sumHex = "0123456789abcdef0123456789abcdef0123456789abcdef0123456789abcdef"
)

// formAt: an answer to a command has a form or not.
func formAt(t *testing.T, command, answer string, has bool) {
	t.Helper()
	lines, answers := append(slices.Clone(unknown), command), append(slices.Clone(unknownAnswers), answer)
	if command == begun {
		lines, answers = []string{begun}, []string{answer}
	}
	if has {
		right(t, script(lines...), answers)
		return
	}
	judged(t, script(lines...), answers, 1, len(answers))
}

// N stands for a number.
var shapes = []struct {
	commands []string
	answers  []string
}{
	{[]string{begun}, []string{"begun" + group}},
	{[]string{`send alice a text "x"`, "bytes bob b 00", "bytes bob b -"}, []string{"sent 2 N", "refused N N"}},
	{[]string{"give 1 alice", "turn 1 0 bob", "cut 1 3 alice", "join 1 00 bob", "extra 1 - alice", "forge 00 bob"}, []string{"refused N N N N", "heard N N timer 5", "bytes N N 00", "bytes N N -"}},
	{[]string{"give 2 alice", "turn 2 0 bob", "cut 0 3 alice", "join 999999999 00 bob", "extra 2 - alice", "load bob b"}, []string{"missing"}},
	{[]string{"forget alice 1"}, []string{"forgot N"}},
	{[]string{"export bob"}, []string{"export N " + sumHex}},
	{[]string{"save bob a", "save bob b"}, []string{"saved N"}},
	{[]string{"load alice a", "load bob a"}, []string{"loaded N"}},
	{[]string{"import bob 00", "import alice -"}, []string{"loaded N", "refused N N"}},
	{[]string{"look alice"}, []string{"look N N N N 0", "look N N N N 1"}},
}

// Each form, with all kinds of numbers in each place.
func TestForms(t *testing.T) {
	for _, x := range shapes {
		for _, command := range x.commands {
			for _, answer := range x.answers {
				formAt(t, command, strings.ReplaceAll(answer, "N", "1"), true)
				for i := range strings.Count(answer, "N") {
					ahead, behind := cutAt(answer, i)
					with := func(n string) string { return strings.ReplaceAll(ahead+n+behind, "N", "1") }
					for _, n := range []string{"0", "9", "10", "4294967296", "9999999999", "1000000000"} {
						formAt(t, command, with(n), true)
					}
					for _, n := range []string{"", "00", "01", "-1", "+1", "10000000000", "99999999999", "1.0", "1e3", "a", "1a", "0x1", "１", "1\t", "\xff", "0000000001", "1_0"} {
						formAt(t, command, with(n), false)
					}
				}
			}
		}
	}
}

// cutAt cuts a shape at the number i of its numbers.
func cutAt(shape string, i int) (ahead, behind string) {
	l := strings.Split(shape, "N")
	return strings.Join(l[:i+1], "N"), strings.Join(l[i+1:], "N")
}

// Words that are too many or too few, blanks that are too many, other cases.
func TestSpoiltForms(t *testing.T) {
	for _, x := range shapes {
		for _, shape := range x.answers {
			command, answer := x.commands[0], strings.ReplaceAll(shape, "N", "1")
			formAt(t, command, answer, true)
			for _, spoilt := range []string{
				" " + answer, answer + " ", answer + " 1", answer + " x", answer + "\r", answer + "\x00", "\t" + answer, "x" + answer, strings.ToUpper(answer[:1]) + answer[1:],
				strings.Replace(answer, " ", "  ", 1) + map[bool]string{true: "", false: " "}[strings.Contains(answer, " ")], strings.Replace(answer, " ", "\t", 1) + map[bool]string{true: "", false: "\t"}[strings.Contains(answer, " ")],
				answer[:len(answer)-1], answer[1:], "", " ", answer + answer,
			} {
				if strings.HasPrefix(answer, "bytes") && spoilt == answer[:len(answer)-1] && strings.HasSuffix(answer, "-") {
					spoilt = "bytes 1 1"
				}
				formAt(t, command, spoilt, false)
			}
			w := strings.Split(answer, " ")
			for i := range w {
				short := append(slices.Clone(w[:i]), w[i+1:]...)
				formAt(t, command, strings.Join(short, " "), false)
			}
		}
	}
}

// allowed are the answers to a command, by their first words and how many they have.
var allowed = map[string]string{
	"begin": "begun 13", "send": "sent 3, refused 3", "bytes": "sent 3, refused 3", "give": "missing 1, heard 5, bytes 4, refused 5", "turn": "missing 1, heard 5, bytes 4, refused 5",
	"cut": "missing 1, heard 5, bytes 4, refused 5", "join": "missing 1, heard 5, bytes 4, refused 5", "extra": "missing 1, heard 5, bytes 4, refused 5", "forge": "heard 5, bytes 4, refused 5",
	"forget": "forgot 2", "export": "export 3", "save": "saved 2", "load": "missing 1, loaded 2", "import": "loaded 2, refused 3", "look": "look 6",
}

// Each answer has its commands, and is of no form of any other.
func TestFormsOfOthers(t *testing.T) {
	for _, x := range shapes {
		for _, command := range x.commands {
			word, _, _ := strings.Cut(command, " ")
			for _, y := range shapes {
				for _, shape := range y.answers {
					answer := strings.ReplaceAll(shape, "N", "1")
					w := strings.Split(answer, " ")
					if !strings.Contains(allowed[word], fmt.Sprint(w[0], " ", len(w))) {
						formAt(t, command, answer, false)
					} else if command != begun {
						text := script(append(slices.Clone(unknown), command)...)
						if rule, _ := agrees(t, text, traceOf(t, text, append(slices.Clone(unknownAnswers), answer))); rule == 1 {
							t.Errorf("%s: %s breaks rule 1", command, answer)
						}
					}
				}
			}
		}
	}
	for _, x := range []struct {
		command, answer string
	}{
		{"load alice a", "refused 7 150"}, {"load alice b", "refused 7 150"}, {"forge 00 bob", "missing"}, {"import bob 00", "missing"}, {"save bob a", "missing"}, {"export bob", "missing"}, {"forget bob 1", "refused 1 1"},
		{"look bob", "refused 1 1"}, {"export bob", "refused 1 1"}, {"save bob a", "refused 1 1"}, {"bytes bob b 00", "refused 4 131 0 0"}, {"import bob 00", "refused 7 150 0 0"}, {"give 1 bob", "refused 4 134"}, {"forge 00 bob", "refused 2 81"},
		{"give 1 bob", "refused 4 134 1"}, {"give 1 bob", "refused 4 134 1 0 0"}, {"bytes bob b 00", "missing"}, {`send bob b timer 5`, "missing"}, {"load alice a", "saved 1"}, {"save bob a", "loaded 1"}, {"look alice", "look 1 1 1 1 2"}, {"look alice", "look 1 1 1 1 00"}, {"look alice", "look 1 1 1 1 01"},
	} {
		formAt(t, x.command, x.answer, false)
	}
}

func TestFormOfSafety(t *testing.T) {
	w := strings.Split("begun"+group, " ")
	for i := 1; i < len(w); i++ {
		for _, with := range []string{"", "0000", "000000", "0000a", "-0000", "00 00", "0000０", "00000 00000", "+1234", "1234\x00"} {
			l := slices.Clone(w)
			l[i] = with
			formAt(t, begun, strings.Join(l, " "), false)
		}
	}
	formAt(t, begun, "begun 00000"+group, false)
	formAt(t, begun, "begun"+strings.Repeat(" 00000", 12), true)
	formAt(t, begun, "begun"+strings.Repeat(" 00000", 11), false)
	formAt(t, begun, "begun"+strings.Repeat(" 00000", 13), false)
}

func TestFormOfHeard(t *testing.T) {
	for _, command := range []string{"give 1 bob", "forge 00 bob", "turn 1 8 alice"} {
		for _, line := range []string{
			`text "hi"`, `text ""`, `text "a  b "`, `text "\"\\"`, `text "\u{e9}"`, "came 1", "read 3 300", "timer 0", `react 0 "+"`, `place 404a400000000000 bfd0000000000000 ""`, `file "a" 0 ` + sumHex,
		} {
			formAt(t, command, "heard 1 1 "+line, true)
		}
		for _, line := range []string{
			"", " ", "text", "text hi", `text "hi" `, ` text "hi"`, `text  "hi"`, `text "hi`, `text "é"`, `text "\u{0e9}"`, "came", "came 2 1", "timer 05", "timer 31536001", `react 0 ""`, "00", "-", `Text "hi"`, `text "hi" "ho"`,
		} {
			formAt(t, command, "heard 1 1 "+line, false)
		}
	}
}

func TestFormOfBytes(t *testing.T) {
	for _, command := range []string{"give 1 bob", "forge 00 bob", "extra 1 00 alice"} {
		for _, hex := range []string{"-", "00", "ff", "6869", "0801", "08011202686900", sumHex, "080112036869", "0805108000"} {
			formAt(t, command, "bytes 1 1 "+hex, true)
		}
		// No digits of bytes, or those of a content, which would be heard.
		for _, hex := range []string{"", "0", "000", "0G", "FF", "--", "-00", "00-", "00 00", "0x00", "080112026869", "08011200", "08051000", "080210011a03020801", "gg", "é", "0 "} {
			formAt(t, command, "bytes 1 1 "+hex, false)
		}
	}
}

func TestFormOfExport(t *testing.T) {
	for _, sum := range []string{sumHex, strings.Repeat("0", 64), strings.Repeat("f", 64)} {
		formAt(t, "export bob", "export 1 "+sum, true)
	}
	for _, sum := range []string{"", "-", sumHex[1:], sumHex[2:], sumHex + "0", sumHex + "00", strings.ToUpper(sumHex), sumHex[:63] + "g", sumHex[:63] + " ", " " + sumHex[1:], sumHex[:32] + " " + sumHex[33:], sumHex + " "} {
		formAt(t, "export bob", "export 1 "+sum, false)
	}
}
