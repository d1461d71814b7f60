package lab_test

import (
	"slices"
	"strings"
	"testing"

	"pawl/api"
	"pawl/lab"
)

// P16.1

const begun = "begin 1 5 9 s once"

// good is a line of each command, its words with one blank between them.
var good = []string{
	begun,
	`send alice a text "hi"`,
	"bytes bob b-1 6869",
	"give 1 bob",
	"turn 2 17 alice",
	"cut 1 30 bob",
	"join 1 00ff bob",
	"extra 1 - alice",
	"forge 0801 bob",
	"forget bob 2",
	"export alice",
	"save bob one",
	"load alice one",
	"import bob 0801",
	"look bob",
}

// Example 2, and a script of comments.
func TestParseExamples(t *testing.T) {
	wrong(t, "send alice a text hi", 1, 0, api.ErrScript)
	wrong(t, "begin 3 5 9 s once", 1, 6, api.ErrScript)
	wrong(t, "begin 1 5 9 s", 1, 13, api.ErrScript)
	wrong(t, "begin 1 05 9 s once", 1, 8, api.ErrScript)
	wrong(t, "begin 1 5 9 s once x", 1, 19, api.ErrScript)
	for _, text := range []string{"# nothing", "", "\n", "\n\n\n", "   ", " # \n#\n  \n", "#"} {
		right(t, text, 0)
		if trace := checkRun(t, text); trace != "" {
			t.Errorf("the trace of %q: %q", text, trace)
		}
	}
}

// Each command is taken, with its line, its word and its further words.
func TestParseEachCommand(t *testing.T) {
	l := right(t, script(good...), len(good))
	for i, c := range l {
		want := strings.Split(good[i], " ")
		if c.Word == "send" {
			want = []string{"send", "alice", "a", `text "hi"`}
		}
		if c.Line != i+1 || c.Word != want[0] || !slices.Equal(c.Args, want[1:]) {
			t.Errorf("the line %q: %v", good[i], c)
		}
	}
	if len(strings.Split(table, "\n")) != len(good) {
		t.Error("there is a command of which there is no line")
	}
}

// Texts of the greatest length, and one byte longer, whatever they hold.
func TestParseLengthOfTexts(t *testing.T) {
	right(t, strings.Repeat("\n", mostScript), 0)
	wrong(t, strings.Repeat("\n", mostScript+1), 0, 0, api.ErrLong)
	comment := "#" + strings.Repeat("x", mostLine-2) + "\n"
	whole := begun + "\n" + strings.Repeat(comment, (mostScript-len(begun)-1)/len(comment))
	for _, end := range []string{"look bob", "look bob\n"} {
		fill := mostScript - len(whole) - len(end)
		text := whole + strings.Repeat(" ", fill) + end
		if l := right(t, text, 2); len(text) != mostScript || l[1].Word != "look" || l[1].Line != strings.Count(whole, "\n")+1 {
			t.Errorf("a text of %d bytes: %v", len(text), l)
		}
		wrong(t, whole+strings.Repeat(" ", fill+1)+end, 0, 0, api.ErrLong)
	}
	wrong(t, "wrong\n"+strings.Repeat("\n", mostScript), 0, 0, api.ErrLong) // ahead of all that a line holds
	wrong(t, strings.Repeat("x", mostScript+1), 0, 0, api.ErrLong)
	wrong(t, strings.Repeat("x", mostScript), 1, mostLine, api.ErrLong)
	wrong(t, strings.Repeat("x\n", mostScript/2), 1, 0, api.ErrScript)
}

// Lines of the greatest length, and one byte longer: commands, and lines that are none.
func TestParseLengthOfLines(t *testing.T) {
	for _, x := range []struct {
		head, fill string
		commands   int
	}{
		{"", " ", 0},
		{"#", "x", 0},
		{"#", " ", 0},
		{"  # ", "#", 0},
		{"#", "\xff", 0},
		{"look bob", " ", 1},
		{"look ", " ", -1},
		{"bytes alice a ", "0", 1},
		{"wrong", " ", -1},
		{"", "x", -1},
		{"", "\x00", -1},
	} {
		line := x.head + strings.Repeat(x.fill, mostLine-len(x.head))
		for _, end := range []string{"", "\n", "\nlook alice", "\n\n"} {
			text := begun + "\n" + line + end
			long := begun + "\n" + line + x.fill + end
			if x.commands >= 0 {
				right(t, text, 1+x.commands+strings.Count(end, "look"))
			} else if _, f := checkParse(t, text); f == nil || f.Line != 2 || f.Why != api.ErrScript {
				t.Errorf("a line that is wrong: %v", f)
			}
			wrong(t, long, 2, mostLine, api.ErrLong)
		}
	}
	wrong(t, strings.Repeat(" ", mostLine+1), 1, mostLine, api.ErrLong)
	wrong(t, strings.Repeat(" ", mostLine-7)+"look bob", 1, mostLine, api.ErrLong)
	wrong(t, strings.Repeat(" ", mostLine-8)+"look bob", 1, mostLine-8, api.ErrScript)
	wrong(t, begun+"\n\n"+strings.Repeat("x", 9000)+"\n", 3, mostLine, api.ErrLong)
	wrong(t, begun+"\nwrong\n"+strings.Repeat("x", 9000), 2, 0, api.ErrScript)
	wrong(t, begun+"\n"+strings.Repeat("x", 9000)+"\nwrong", 2, mostLine, api.ErrLong)
}

// As many commands as there may be, and one more, which need not be a right one.
func TestParseNumberOfCommands(t *testing.T) {
	full := begun + strings.Repeat("\nlook bob", mostOps-1)
	right(t, full, mostOps)
	right(t, full+"\n", mostOps)
	right(t, full+"\n# more\n\n   \n #", mostOps)
	right(t, strings.ReplaceAll(full, "\n", "\n\n#\n"), mostOps)
	for _, more := range []string{"look bob", "  look bob", "   wrong", "look", "look bob bob", begun, "send bob x no", "x"} {
		wrong(t, full+"\n"+more, mostOps+1, 0, api.ErrLong)
		wrong(t, full+"\n\n# more\n"+more+"\nwrong\n", mostOps+3, 0, api.ErrLong)
	}
	wrong(t, full+"\n"+strings.Repeat("x", mostLine+1), mostOps+1, mostLine, api.ErrLong)
	wrong(t, full+"\n"+strings.Repeat("#", mostLine+1), mostOps+1, mostLine, api.ErrLong)
	one := begun + strings.Repeat("\nlook bob", mostOps-2)
	wrong(t, one+"\nwrong\nlook bob\nlook bob", mostOps, 0, api.ErrScript)
	wrong(t, one+"\n look\nlook bob\nlook bob", mostOps, 5, api.ErrScript)
}

// Where lines begin and end, and which number each has.
func TestParseLines(t *testing.T) {
	numbers := func(text string, want ...int) {
		t.Helper()
		for i, c := range right(t, text, len(want)) {
			if c.Line != want[i] {
				t.Errorf("%q: the command %d stands in the line %d", text, i, c.Line)
			}
		}
	}
	numbers(begun, 1)
	numbers(begun+"\n", 1)
	numbers(begun+"\n\n", 1)
	numbers("\n"+begun, 2)
	numbers("\n\n#\n"+begun+"\nlook bob\n\nlook alice", 4, 5, 7)
	numbers("#\n"+begun+"\n#\nlook bob\n", 2, 4)
	wrong(t, begun+"\n\n\nwrong\n", 4, 0, api.ErrScript)
	wrong(t, begun+"\nlook bob\r\n", 2, 5, api.ErrScript)
	wrong(t, begun+"\r", 1, 14, api.ErrScript)
	wrong(t, begun+"\rlook bob", 1, 14, api.ErrScript)
	wrong(t, begun+"\n\r\n", 2, 0, api.ErrScript)
	wrong(t, begun+"\n\x00", 2, 0, api.ErrScript)
}

// Blanks ahead of words, between them, behind them; whatever else is no letter belongs to a word.
func TestParseBlanks(t *testing.T) {
	for i, line := range good {
		words := strings.Split(line, " ")
		for _, blanks := range []string{" ", "  ", "       "} {
			spread := blanks + strings.Join(words, blanks)
			if words[0] != "send" { // behind a content a blank is one of its line
				spread += blanks
			} else {
				spread = blanks + strings.Join(words[:3], blanks) + blanks + strings.Join(words[3:], " ")
			}
			text := script(begun, spread)
			if i == 0 {
				text = script(spread, "look bob")
			}
			want := right(t, script(good...), len(good))[i]
			got := right(t, text, 2)[min(i, 1)]
			if got.Word != want.Word || !slices.Equal(got.Args, want.Args) {
				t.Errorf("%q: %v, not %v", spread, got, want)
			}
		}
	}
	for _, no := range []string{"\t", "\r", "\v", "\f", "\x00", "\u00a0", "\u2003", "\x85"} {
		wrong(t, begun+"\nlook"+no+"bob", 2, 0, api.ErrScript)
		wrong(t, begun+"\n"+no+"look bob", 2, 0, api.ErrScript)
		wrong(t, begun+"\nlook bob"+no, 2, 5, api.ErrScript)
		wrong(t, begun+"\nlook bob "+no, 2, 9, api.ErrScript)
		wrong(t, begun+"\n "+no, 2, 1, api.ErrScript)
		wrong(t, begun+"\n "+no+"# no comment", 2, 1, api.ErrScript)
	}
}

// What begins with # is no command, wherever that stands; what holds one further on is one.
func TestParseComments(t *testing.T) {
	right(t, script("#"+begun, "  #", "# "+begun, begun, "#look bob", "   # look", "##", "#"+strings.Repeat("\xff", 50)), 1)
	wrong(t, script(begun, "look bob # why"), 2, 9, api.ErrScript)
	wrong(t, script(begun, "look bob#"), 2, 5, api.ErrScript)
	wrong(t, script(begun, "look# bob"), 2, 0, api.ErrScript)
	wrong(t, script(begun, "look #bob"), 2, 5, api.ErrScript)
	wrong(t, script(begun, `send bob a text "hi" # why`), 2, 20, api.ErrContent)
	right(t, script(begun, `send bob a text "# why"`), 2)
}

// A begin that is not the first command, a first command that is not begin, and words that are no command's.
func TestParseFirst(t *testing.T) {
	for _, line := range good[1:] {
		wrong(t, line, 1, 0, api.ErrScript)
		wrong(t, "\n#\n  "+line+"\n"+begun, 3, 2, api.ErrScript)
		right(t, script(begun, line), 2)
	}
	for _, second := range []string{begun, "  " + begun, "begin", "begin 9", "begin once"} {
		at := strings.Index(second, "begin")
		wrong(t, script(begun, second), 2, at, api.ErrScript)
		wrong(t, script(begun, "look bob", "", second), 4, at, api.ErrScript)
	}
	for _, no := range []string{"x", "Begin", "BEGIN", "begi", "begins", "begin1", "be#gin", "Look", "lookbob", "loo", "looks", "sen", "sends", "alice", "bob", "1", "-", "take", "widen", "missing", "\xff", "é"} {
		wrong(t, no, 1, 0, api.ErrScript)
		wrong(t, "   "+no+" bob", 1, 3, api.ErrScript)
		wrong(t, script(begun, no+" bob"), 2, 0, api.ErrScript)
		wrong(t, script(begun, " "+no), 2, 1, api.ErrScript)
	}
}

// edges are words of each kind: such as can stand there, and such as can't.
var edges = map[string]struct{ can, cant []string }{
	"SIDE":    {[]string{"alice", "bob"}, []string{"Alice", "BOB", "alic", "alicee", "bo", "bobb", "carol", "a", "1", "-", "alice,bob", "alice\x00", "#bob"}},
	"VERSION": {[]string{"1", "2"}, []string{"0", "3", "01", "12", "1.", "-1", "+1", "v1", "one", "-", "10"}},
	"ONCE":    {[]string{"once", "none"}, []string{"Once", "NONE", "on", "no", "onces", "nonce", "true", "1", "0", "-"}},
	"NAME":    {[]string{"a", "z", "abcdefghijklmnop", "alice", "once"}, []string{"abcdefghijklmnopq", "A", "aB", "a1", "1", "a-b", "-", "a_", "é", "a\x00", "`", "{"}},
	"SKIP":    {[]string{"0", "1", "9", "10", "99", "999", "1000"}, []string{"1001", "1010", "2000", "10000", "1000000000", "00", "01", "0999", "-1", "+1", "1e2", "0x1", "a", "-", "1_0"}},
	"STORE":   {[]string{"0", "1", "999", "1000", "1001", "1999", "2000"}, []string{"2001", "2100", "20000", "9999999999", "00", "02000", "-1", "+1", "1e3", "a", "-"}},
	"SEED":    {[]string{"a", "z", "0", "9", "-", "--", "a-9", strings.Repeat("q", 64), strings.Repeat("-", 64)}, []string{strings.Repeat("q", 65), "A", "a_b", "a/b", "a.b", "é", "a\x00", "`", "{", ":", "a+b", "\"a\""}},
	"HEX":     {[]string{"-", "00", "ff", "0f1e2d3c4b5a69788796a5b4c3d2e1f0", strings.Repeat("00", 100)}, []string{"0", "000", "--", "-0", "0-", "-00", "00-", "0F", "FF", "0g", "g0", "0x00", "00x0", "é", "0:", "/0", "0`"}},
	"K":       numberEdges,
	"BIT":     numberEdges,
	"N":       numberEdges,
}

var numberEdges = struct{ can, cant []string }{
	[]string{"0", "1", "9", "10", "12345678", "100000000", "999999999"},
	[]string{"1000000000", "0000000001", "00", "01", "000", "-1", "+1", "-", "1.0", "1e3", "a", "1a", "0x1", "1_0", "٣", "/", ":"},
}

// replaced is a line of words with another word at a place, and where that begins.
func replaced(words []string, i int, word string) (string, int) {
	l := slices.Clone(words)
	l[i] = word
	return strings.Join(l, " "), len(strings.Join(l[:i], " ")) + min(i, 1)
}

// placed is the text in which a line of the table stands, and its number: begin is the first command, any other one stands behind it.
func placed(line string) (string, int) {
	if strings.HasPrefix(line, "begin") {
		return line, 1
	}
	return begun + "\n" + line, 2
}

// Of each command each word: such as can stand there, and such as can't; and where there are two of these, the first one.
func TestParseWords(t *testing.T) {
	for i, line := range strings.Split(table, "\n") {
		kinds := strings.Split(line, " ")
		words := strings.SplitN(good[i], " ", len(kinds))
		for at, kind := range kinds {
			if at == 0 || kind == "CONTENT" {
				continue
			}
			for _, word := range edges[kind].can {
				other, _ := replaced(words, at, word)
				text, n := placed(other)
				if l := right(t, text, n); l[n-1].Args[at-1] != word {
					t.Errorf("%q: %v", other, l)
				}
			}
			for _, word := range edges[kind].cant {
				other, place := replaced(words, at, word)
				text, n := placed(other)
				wrong(t, text, n, place, api.ErrScript)
				wrong(t, text+" x", n, place, api.ErrScript)
				wrong(t, text+"\nwrong", n, place, api.ErrScript)
				for further := at + 1; further < len(words); further++ {
					text, n := placed(strings.Join(append(strings.Split(other, " ")[:further], "?"), " "))
					wrong(t, text, n, place, api.ErrScript)
				}
			}
		}
	}
}

// Of each command each word missing, and all behind it, with blanks behind the others or without; and one word too many.
func TestParseMissingAndMore(t *testing.T) {
	for i, line := range strings.Split(table, "\n") {
		kinds := strings.Split(line, " ")
		words := strings.SplitN(good[i], " ", len(kinds))
		for n := 1; n < len(words); n++ {
			for _, end := range []string{"", " ", "    "} {
				cut := strings.Join(words[:n], " ") + end
				text, number := placed(cut)
				wrong(t, text, number, len(cut), api.ErrScript)
				wrong(t, text+"\nlook bob", number, len(cut), api.ErrScript)
			}
		}
		if words[0] == "send" {
			continue
		}
		for _, more := range []string{"x", "bob", "0", "#", "x y"} {
			text, number := placed(good[i] + " " + more)
			wrong(t, text, number, len(good[i])+1, api.ErrScript)
			text, number = placed(good[i] + "    " + more + " ")
			wrong(t, text, number, len(good[i])+4, api.ErrScript)
		}
	}
}

// A word left out, the others being there: the one behind it stands in its place.
func TestParseLeftOut(t *testing.T) {
	for i, line := range good {
		words := strings.Split(line, " ")
		for n := 1; n < len(words); n++ {
			l := slices.Delete(slices.Clone(words), n, n+1)
			text, _ := placed(strings.Join(l, " "))
			if _, f := checkParse(t, text); f == nil {
				t.Errorf("the line %d without its word %d is taken", i, n)
			}
		}
	}
}

// Contents that are taken, as they stand, and such as are not, with the place.
func TestParseContents(t *testing.T) {
	for _, c := range []string{
		`text "hi"`, `text ""`, `text "a  b   "`, `text "\u{e9}\"\\"`, "came 1 2 3", "read 3 300",
		`place 404a400000000000 bfd0000000000000 "here"`, `react 7 "+"`, "timer 0", `file "x" 5 ` + strings.Repeat("ab", 32),
	} {
		for _, line := range []string{"send bob a " + c, "  send   bob  a    " + c} {
			if l := right(t, script(begun, line), 2); len(l[1].Args) != 3 || l[1].Args[2] != c {
				t.Errorf("%q: %v", line, l)
			}
		}
	}
	for _, x := range []struct {
		content string
		at      int
	}{
		{"Text", 0}, {"text", 4}, {`text hi`, 5}, {`text  "hi"`, 5}, {`text "hi`, 5}, {`text "hi" `, 9}, {`text "hi"x`, 9}, {`text "hi" x`, 9},
		{`text "\u{0e9}"`, 5}, {"\ttext", 0}, {"#", 0}, {"read", 4}, {"read ", 5}, {"read 3 3", 7}, {"read 3 ", 7}, {"timer 05", 6}, {"timer 5 6", 7},
		{"timer 31536001", 6}, {`place 404a400000000000 bfd0000000000000`, 39}, {`place 4056a00000000000 bfd0000000000000 ""`, 6}, {`react 1 ""`, 8}, {`file "x" 5 ab`, 11}, {"\"hi\"", 0}, {"text\xff", 0},
	} {
		wrong(t, script(begun, "send bob a "+x.content), 2, 11+x.at, api.ErrContent)
		wrong(t, script(begun, "  send  bob a    "+x.content), 2, 17+x.at, api.ErrContent)
		wrong(t, script(begun, "", "send bob a "+x.content, "wrong"), 3, 11+x.at, api.ErrContent)
		wrong(t, script(begun, "send carol a "+x.content), 2, 5, api.ErrScript) // the words come ahead of the content
		wrong(t, script(begun, "send bob A "+x.content), 2, 9, api.ErrScript)
	}
	long := `text "` + strings.Repeat("x", api.MaxText) + `"`
	right(t, script(begun, "send bob a "+long), 2)
	wrong(t, script(begun, `send bob a text "`+strings.Repeat("x", api.MaxText+1)+`"`), 2, 16, api.ErrContent)
}

// Lines with drawn changes, several at once, and drawn bytes.
func TestParseDrawn(t *testing.T) {
	d := newDrawer(1600)
	reasons := map[api.Errno]int{}
	letters := " \n#-0123abz\"\\\t\r\x00\xff9AÉ"
	for range 30000 {
		text := []byte(script(begun, d.one(good[1:]...), d.one(good[1:]...)))
		for range d.Intn(4) {
			at := d.Intn(len(text))
			switch d.Intn(3) {
			case 0:
				text[at] = letters[d.Intn(len(letters))]
			case 1:
				text = slices.Insert(text, at, letters[d.Intn(len(letters))])
			default:
				text = slices.Delete(text, at, at+1)
			}
		}
		_, f := checkParse(t, string(text))
		if f == nil {
			f = &api.Fault{}
		}
		reasons[f.Why]++
		b := make([]byte, d.Intn(20))
		for i := range b {
			b[i] = letters[d.Intn(len(letters))]
		}
		checkParse(t, string(b))
	}
	for _, why := range []api.Errno{api.OK, api.ErrScript, api.ErrContent} {
		if reasons[why] < 300 {
			t.Errorf("%v came %d times", why, reasons[why])
		}
	}
}

// What Parse answers is new memory: no command's words lie in another one's room, nor in that of another answer.
func TestParseMemory(t *testing.T) {
	text := script(good...)
	one, _ := lab.Parse(text)
	other, _ := lab.Parse(text)
	want, _ := parseByWords(text)
	for i := range one {
		args := one[i].Args
		for j := range args[:cap(args)] {
			args[:cap(args)][j] = "changed"
		}
		for k := range one {
			if k > i && !slices.Equal(one[k].Args, want[k].Args) {
				t.Fatalf("the words of the command %d lie in those of the command %d", k, i)
			}
		}
	}
	for i := range one[:cap(one)] {
		one[:cap(one)][i] = api.Command{}
	}
	if !sameCommands(other, want) {
		t.Error("two answers share memory")
	}
	checkParse(t, text)
}
