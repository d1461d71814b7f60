package script_test

import (
	"strings"
	"testing"

	"pawl/api"
	"pawl/script"
)

// What a table says of scripts beside the commands of a layer, whose own tests hold all else: the first command, the forms, the reason.

func table(first string, wrong api.Errno) script.Table {
	return script.Table{First: first, Wrong: wrong, Form: func(command string) (script.Form, bool) {
		switch command {
		case "town":
			return script.Words(script.UpTo(12)), true
		case "say":
			return script.WithContent(script.Letters(3)), true
		case "only":
			return script.WithContent(), true
		case "end":
			return script.Words(), true
		}
		return script.Form{}, false
	}}
}

func TestTable(t *testing.T) {
	for _, x := range []struct {
		first, text string
		line, at    int
		why         api.Errno
	}{
		{"town", "town 12\nend", 0, 0, api.OK},
		{"end", "end\ntown 0", 0, 0, api.OK},
		{"town", "town 12\nend\nend", 0, 0, api.OK},
		{"town", "end", 1, 0, api.ErrTown},
		{"end", "end\n end", 2, 1, api.ErrTown},
		{"town", "town 13", 1, 5, api.ErrTown},
		{"town", "town 12\nend x", 2, 4, api.ErrTown},
		{"town", "town 12\nsay abcd timer 5", 2, 4, api.ErrTown},
		{"town", "town 12\nsay abc", 2, 7, api.ErrTown},
		{"town", "town 12\nsay abc timer x", 2, 14, api.ErrContent},
		{"town", "town 12\nonly ", 2, 5, api.ErrTown},
		{"town", "town 12\nonly  timer 5 ", 2, 13, api.ErrContent},
		{"town", "town 12\nwrong", 2, 0, api.ErrTown},
		{"town", "town 12" + strings.Repeat(" ", 4000), 1, 4000, api.ErrLong},
		{"town", "town 12" + strings.Repeat("\nend", 400), 401, 0, api.ErrLong},
		{"town", strings.Repeat("\n", 1<<18+1), 0, 0, api.ErrLong},
	} {
		l, err := table(x.first, api.ErrTown).Read(x.text)
		f, _ := err.(*api.Fault)
		if x.why == api.OK {
			if err != nil || len(l) != strings.Count(x.text, "\n")+1 {
				t.Errorf("%.40q: %v, %v", x.text, l, err)
			}
		} else if f == nil || *f != (api.Fault{Line: x.line, At: x.at, Why: x.why}) || len(l) != 0 {
			t.Errorf("%.40q: %v, %v", x.text, l, err)
		}
	}
	if l, err := table("town", api.ErrTown).Read("town 7\n only  text \" x\"\nsay  ab read 1 2"); err != nil || len(l) != 3 ||
		l[0].Args[0] != "7" || l[1].Args[0] != `text " x"` || l[2].Args[0] != "ab" || l[2].Args[1] != "read 1 2" {
		t.Errorf("%v, %v", l, err)
	}
}

// An empty word is none of what words can be: so a word that is missing is found.
func TestEmptyWord(t *testing.T) {
	for i, is := range []func(string) bool{script.Number, script.Seed, script.Hex, script.Decimal(9), script.UpTo(9), script.Letters(9), script.OneOf("a", "b")} {
		if is("") {
			t.Errorf("an empty word is %d", i)
		}
	}
}

// Numbers as words: a script's have up to nine digits, others as many as is said.
func TestNumberWords(t *testing.T) {
	for _, x := range []struct {
		word   string
		digits int // 0: it is no number
	}{{"0", 1}, {"7", 1}, {"10", 2}, {"999999999", 9}, {"1000000000", 10}, {"00", 0}, {"01", 0}, {"-1", 0}, {"+1", 0}, {"1 ", 0}, {"a", 0}, {"1e3", 0}} {
		if script.Number(x.word) != (x.digits > 0 && x.digits <= 9) {
			t.Errorf("Number(%q)", x.word)
		}
		for most := range 12 {
			if script.Decimal(most)(x.word) != (x.digits > 0 && x.digits <= most) {
				t.Errorf("Decimal(%d) of %q", most, x.word)
			}
		}
	}
}

// Bytes as words, and back.
func TestHexWords(t *testing.T) {
	for _, x := range []struct {
		b    []byte
		word string
	}{{nil, "-"}, {[]byte{}, "-"}, {[]byte{0}, "00"}, {[]byte{0x0f, 0xa0}, "0fa0"}} {
		if word := script.HexOf(x.b); word != x.word || !script.Hex(word) || string(script.Bytes(word)) != string(x.b) {
			t.Errorf("%x: %q", x.b, word)
		}
	}
	if script.Int("0") != 0 || script.Int("999999999") != 999999999 {
		t.Error("numbers are read wrong")
	}
}
