package content_test

import (
	"fmt"
	"math"
	"strings"
	"testing"

	"pawl/api"
	"pawl/content"
)

const keyDigits = "aa000000000000000000000000000000000000000000000000000000000000bb"

// P9.4

// Of examples 1 to 3, and one of each other kind, worked by hand.
func TestPrintExamples(t *testing.T) {
	for _, x := range []struct {
		c    api.Content
		line string
	}{
		{api.Content{Kind: api.CText, Text: "hi"}, `text "hi"`},
		{api.Content{Kind: api.CText}, `text ""`},
		{api.Content{Kind: api.CText, Text: "é"}, `text "\u{e9}"`},
		{api.Content{Kind: api.CText, Text: `"\`}, `text "\"\\"`},
		{api.Content{Kind: api.CText, Text: "\x00\n\x1f !~\x7f\u0080\ufffd\U0010ffff"}, `text "\u{0}\u{a}\u{1f} !~\u{7f}\u{80}\u{fffd}\u{10ffff}"`},
		{api.Content{Kind: api.CReceipt, Number: 1, Marks: []uint32{0}}, "came 0"},
		{api.Content{Kind: api.CReceipt, Number: 2, Marks: []uint32{3, 300}}, "read 3 300"},
		{api.Content{Kind: api.CReceipt, Number: 2, Marks: []uint32{0, math.MaxUint32}}, "read 0 4294967295"},
		{api.Content{Kind: api.CPlace, Lat: 52.5, Long: -0.25}, `place 404a400000000000 bfd0000000000000 ""`},
		{api.Content{Kind: api.CPlace, Lat: 0, Long: math.SmallestNonzeroFloat64, Text: "x y"}, `place 0000000000000000 0000000000000001 "x y"`},
		{api.Content{Kind: api.CReact, Number: 4294967295, Text: "\U0001f600"}, `react 4294967295 "\u{1f600}"`},
		{api.Content{Kind: api.CTimer}, "timer 0"},
		{api.Content{Kind: api.CTimer, Number: 31536000}, "timer 31536000"},
		{api.Content{Kind: api.CFile, Text: "a b", Number: 1 << 40, Key: api.Key{0xaa, 31: 0xbb}}, `file "a b" 1099511627776 ` + keyDigits},
	} {
		if line, e := content.Print(x.c); line != x.line || e != api.OK {
			t.Errorf("%v: %q, %v, not %q", x.c, line, e, x.line)
		}
		if c, at, e := content.Parse(x.line); !same(c, x.c) || at != 0 || e != api.OK {
			t.Errorf("%q: %v, %d, %v, not %v", x.line, c, at, e, x.c)
		}
		checkContent(t, x.c)
		checkParse(t, x.line)
	}
}

func TestPrintRefuses(t *testing.T) {
	for _, x := range []struct {
		c api.Content
		e api.Errno
	}{
		{api.Content{}, api.ErrContent},
		{api.Content{Kind: api.CText, Text: "\xff"}, api.ErrContent},
		{api.Content{Kind: api.CReceipt, Number: 3, Marks: []uint32{3}}, api.ErrContent},
		{api.Content{Kind: api.CReceipt, Number: 0, Marks: []uint32{3}}, api.ErrContent},
		{api.Content{Kind: api.CPlace, Lat: 90.5, Number: 1}, api.ErrPlace},
	} {
		if line, e := content.Print(x.c); line != "" || e != x.e {
			t.Errorf("%v: %q, %v, not %v", x.c, line, e, x.e)
		}
	}
}

// Every character, by itself and between others: no byte below 32 or above 126, and back.
func TestPrintEveryCharacter(t *testing.T) {
	step := rune(1)
	for r := rune(0); r <= 0x10ffff; r += step {
		if r >= 0x3000 && r < 0x10ff00 { // and some of those that are all alike
			step = 97
		} else {
			step = 1
		}
		if r >= 0xd800 && r <= 0xdfff {
			continue
		}
		c := api.Content{Kind: api.CText, Text: string(r) + "a" + string(r) + string(r)}
		line, e := content.Print(c)
		if e != api.OK || strings.ContainsFunc(line, func(r rune) bool { return r < 32 || r > 126 }) {
			t.Fatalf("the character %x: %q, %v", r, line, e)
		}
		if want := lineByWords(c); line != want {
			t.Fatalf("the character %x: %q, not %q", r, line, want)
		}
		if back, _, e := content.Parse(line); e != api.OK || back.Text != c.Text {
			t.Fatalf("the character %x: %q is read as %q, %v", r, line, back.Text, e)
		}
	}
}

// P9.5

func misparse(t *testing.T, s string, at int) {
	t.Helper()
	c, place, e := content.Parse(s)
	if !zero(c) || place != at || e != api.ErrContent {
		t.Errorf("%q: %v, %d, %v, not an error at %d", s, c, place, e, at)
	}
	checkParse(t, s)
}

func TestParseExamples(t *testing.T) {
	misparse(t, `text "\u{0e9}"`, 5)
	misparse(t, "read 3 3", 7)
	misparse(t, "read", 4)
	misparse(t, "read 3 ", 7)
	misparse(t, "read  3", 5)
	misparse(t, "timer 5 6", 7)
	misparse(t, "timer 05", 6)
	misparse(t, "Timer 5", 0)
}

func TestParseWords(t *testing.T) {
	for _, s := range []string{"", " ", "  ", " text \"\"", "tex \"\"", "texts \"\"", "TEXT \"\"", "text\"\"", "text\t\"\"", "text\x00 \"\"", "receipt 3", "gone 3", "came3", "read,3", "x", "\xff", "é", "timer5", "\"\"", "1", "6 5"} {
		misparse(t, s, 0)
	}
	for _, s := range []string{"text", "came", "read", "place", "react", "timer", "file"} {
		misparse(t, s, len(s))
		misparse(t, s+" ", len(s)+1)
		misparse(t, s+"  ", len(s)+1)
		misparse(t, s+" x", len(s)+1)
		misparse(t, s+"x", 0)
	}
}

func TestParseNumbers(t *testing.T) {
	for _, x := range []struct{ ahead, behind, most, beyond string }{
		{"timer ", "", "31536000", "31536001"},
		{"react ", ` "+"`, "4294967295", "4294967296"},
		{`file "a" `, " " + keyDigits, "1099511627776", "1099511627777"},
		{"came ", "", "4294967295", "4294967296"},
		{"read 7 ", "", "4294967295", "4294967296"},
	} {
		if !checkParse(t, x.ahead+x.most+x.behind) || x.ahead != "read 7 " && !checkParse(t, x.ahead+"0"+x.behind) {
			t.Errorf("%q: the bounds are not taken", x.ahead)
		}
		for _, n := range []string{
			x.beyond, "", "00", "01", "0" + x.most, "+5", "-5", "-0", "5.0", "5e1", "0x5", "5_0", "1,000", "5\t", "\n5", "five", "5a", "a5", "٥", "５", "\xff", `"5"`,
			"18446744073709551615", "18446744073709551616", "18446744073709551617", "184467440737095516150", "99999999999999999999999999", strings.Repeat("9", 3000), strings.Repeat("0", 3000),
		} {
			misparse(t, x.ahead+n+x.behind, len(x.ahead))
		}
	}
}

func TestParseMarks(t *testing.T) {
	line := "came"
	for n := range 103 {
		line += fmt.Sprintf(" %d", 9*n)
		if taken := checkParse(t, line); taken != (n < 100) {
			t.Errorf("%d marks: taken is %v", n+1, taken)
		}
		if n > 0 {
			checkParse(t, line+fmt.Sprintf(" %d", 9*n))
		}
		if n == 99 {
			for _, more := range []string{"", "5", "891", "892", "0892", "x", " "} {
				misparse(t, line+" "+more, len(line)+1)
			}
		}
	}
	for _, x := range []struct {
		s  string
		at int
	}{
		{"came 5 4", 7}, {"came 5 5", 7}, {"came 5 05", 7}, {"came 5 6 6", 9}, {"came 5 6 5", 9}, {"came 0 0", 7}, {"came 4294967295 0", 16}, {"came 4294967295 4294967295", 16}, {"came 4294967295 4294967296", 16},
		{"came 5  6", 7}, {"came 5 6 ", 9}, {"came 5\t6", 5}, {"came 5,6", 5}, {"came \"5\"", 5}, {"came 10 9", 8}, {"came 5 6 x 7", 9},
	} {
		misparse(t, x.s, x.at)
	}
	for _, s := range []string{"came 0", "came 0 1", "came 9 10", "read 4294967294 4294967295", "read 0 4294967295"} {
		if !checkParse(t, s) {
			t.Errorf("%q is not taken", s)
		}
	}
}

func TestParseQuotedTexts(t *testing.T) {
	for _, x := range []struct{ ahead, behind string }{{"text ", ""}, {"react 5 ", ""}, {"place 0000000000000000 0000000000000000 ", ""}, {"file ", " 5 " + keyDigits}} {
		for _, q := range []string{`"a"`, `" "`, `"a b"`, `"\""`, `"\\"`, `"\\\""`, `"\u{0}"`, `"\u{1f}"`, `"\u{7f}"`, `"\u{80}"`, `"\u{d7ff}"`, `"\u{e000}"`, `"\u{fffd}"`, `"\u{10ffff}"`, `"u{41}"`, `"\\u{41}"`, `"{}"`, `"'"`} {
			if !checkParse(t, x.ahead+q+x.behind) {
				t.Errorf("%q is not taken", x.ahead+q+x.behind)
			}
		}
		for _, q := range []string{
			`"`, `a`, `a"`, `"a`, `'a'`, "`a`", `"\"`, `"\\\"`, `"\a"`, `"\n"`, `"\/"`, `"\ "`, `"\U{e9}"`, `"\u00e9"`, `"\x41"`, `"\101"`,
			`"\u"`, `"\u{"`, `"\u}"`, `"\u{}"`, `"\u{e9"`, `"\ue9}"`, `"\u{e9}`, `"\u{E9}"`, `"\u{0e9}"`, `"\u{00}"`, `"\u{+e9}"`, `"\u{-e9}"`, `"\u{ e9}"`, `"\u{e9 }"`, `"\u{0xe9}"`, `"\u{e_9}"`, `"\u{g}"`,
			`"\u{20}"`, `"\u{41}"`, `"\u{22}"`, `"\u{5c}"`, `"\u{7e}"`, `"\u{d800}"`, `"\u{dfff}"`, `"\u{110000}"`, `"\u{7fffffff}"`, `"\u{80000000}"`, `"\u{ffffffff}"`, `"\u{1000000e9}"`, `"\u{100000000000000e9}"`, `"\u{-1}"`,
			"\"é\"", "\"\x00\"", "\"\t\"", "\"\n\"", "\"\x1f\"", "\"\x7f\"", "\"\xff\"", "\"\xc3\"", "\"\ufffd\"", "\"\\é\"", "\"\\\xff\"", "\"\\\x00\"",
		} {
			misparse(t, x.ahead+q+x.behind, len(x.ahead))
		}
		// It ends at its own end; what comes behind is another matter.
		for _, more := range []string{`"`, "x", `"a"`, "\\", "\t"} {
			misparse(t, x.ahead+`"a"`+more+x.behind, len(x.ahead)+3)
		}
		misparse(t, x.ahead+` "a"`+x.behind, len(x.ahead))
	}
	misparse(t, `text "a" `, 8)
	misparse(t, `text "a" "b"`, 8)
	misparse(t, `file "a"  5 `+keyDigits, 9)
	misparse(t, `file "a`, 5)
	misparse(t, `file "a" 5`, 10)
	misparse(t, `file "a" 5 `, 11)
}

func TestParseBoundsOfTexts(t *testing.T) {
	for _, x := range []struct {
		ahead, behind string
		least, most   int
	}{{"text ", "", 0, 2000}, {"react 5 ", "", 1, 64}, {"place 0000000000000000 0000000000000000 ", "", 0, 200}, {"file ", " 5 " + keyDigits, 1, 255}} {
		for _, n := range []int{0, 1, 63, 64, 65, 199, 200, 201, 254, 255, 256, 1999, 2000, 2001, 5000} {
			for _, c := range []struct {
				form string
				size int
			}{{"x", 1}, {`\\`, 1}, {`\u{0}`, 1}, {`\u{e9}`, 2}, {`\u{10ffff}`, 4}} {
				s := x.ahead + `"` + strings.Repeat(c.form, n) + `"` + x.behind
				if taken := checkParse(t, s); taken != (n*c.size >= x.least && n*c.size <= x.most) {
					t.Errorf("%s%d times %q: taken is %v", x.ahead, n, c.form, taken)
				}
				if !checkParse(t, s) {
					misparse(t, s, len(x.ahead))
				}
			}
		}
	}
}

func TestParseFloats(t *testing.T) {
	const zero = "0000000000000000"
	for _, f := range []string{zero, "0000000000000001", "8000000000000001", "4056800000000000", "c056800000000000"} {
		if !checkParse(t, "place "+f+" "+f+` ""`) {
			t.Errorf("%s is not taken", f)
		}
	}
	for _, f := range []string{"4066800000000000", "c066800000000000", "4056800000000001", "4060000000000000"} {
		if !checkParse(t, "place "+zero+" "+f+` ""`) {
			t.Errorf("%s is not taken", f)
		}
		misparse(t, "place "+f+" "+zero+` ""`, 6)
	}
	for _, f := range []string{
		"4066800000000001", "c066800000000001", "8000000000000000", "7ff0000000000000", "fff0000000000000", "7ff8000000000000", "7ff0000000000001", "ffffffffffffffff", "7fefffffffffffff",
		"", "0", "000000000000000", "00000000000000000", "404A400000000000", "404a40000000000g", "0x404a4000000000", "+04a400000000000", "-04a400000000000", "404a4000_0000000", "52.5", "1404a400000000000", "é00000000000000", strings.Repeat("0", 1000),
	} {
		misparse(t, "place "+f+" "+zero+` ""`, 6)
		misparse(t, "place "+zero+" "+f+` ""`, 23)
	}
	misparse(t, "place "+zero, 22)
	misparse(t, "place "+zero+" ", 23)
	misparse(t, "place "+zero+" "+zero, 39)
	misparse(t, "place "+zero+" "+zero+" ", 40)
	misparse(t, "place "+zero+"  "+zero+` ""`, 23)
	misparse(t, "place "+zero+zero+` ""`, 6)
}

func TestParseKeys(t *testing.T) {
	ahead := `file "a" 5 `
	for _, k := range []string{keyDigits, strings.Repeat("0", 64), strings.Repeat("f", 64), strings.Repeat("0123456789abcdef", 4)} {
		if !checkParse(t, ahead+k) {
			t.Errorf("%s is not taken", k)
		}
		misparse(t, ahead+k+" ", len(ahead)+64)
		misparse(t, ahead+k+" 5", len(ahead)+64)
	}
	for _, k := range []string{
		"", "0", keyDigits[1:], keyDigits[2:], keyDigits + "0", keyDigits + "00", strings.ToUpper(keyDigits), "g" + keyDigits[1:], keyDigits[:63] + "g", "+" + keyDigits[1:], "0x" + keyDigits[2:], strings.Repeat("é", 32), strings.Repeat("ab", 5000),
		keyDigits[:20] + "/" + keyDigits[21:], keyDigits[:20] + ":" + keyDigits[21:], keyDigits[:20] + "`" + keyDigits[21:], keyDigits[:20] + "\x00" + keyDigits[21:], keyDigits[:20] + " " + keyDigits[21:],
	} {
		misparse(t, ahead+k, len(ahead))
	}
}

// Each line that can be made of a few bytes behind each word.
func TestParseOfAllShort(t *testing.T) {
	for _, x := range []struct {
		ahead, bytes string
		most         int
	}{
		{"text \"", "\"\\u{}4e ", 5}, {"text ", "\"\\ a", 6}, {"timer ", "019 -a", 4}, {"read ", "012 ", 6}, {"react 0 ", "\"\\ a0", 5}, {"", "tex \"", 6}, {"came 4294967294", " 04596x", 3},
	} {
		list := []string{""}
		for range x.most {
			var longer []string
			for _, s := range list {
				for _, c := range []byte(x.bytes) {
					longer = append(longer, s+string(rune(c)))
				}
			}
			for _, s := range longer {
				checkParse(t, x.ahead+s)
			}
			list = longer
		}
	}
}

// A line of each kind: cut at each place, each byte changed to each other one, each blank doubled, something ahead and behind.
func TestParseOfEachKindSpoiled(t *testing.T) {
	odd := plain(api.CText)
	odd.Text = "a\" \\ é\x00"
	long := plain(api.CReceipt)
	long.Marks = []uint32{0, 9, 10, 4294967295}
	lines := []string{lineByWords(odd), lineByWords(long)}
	for _, kind := range kinds {
		lines = append(lines, lineByWords(plain(kind)))
	}
	for _, line := range lines {
		for at := range len(line) {
			// Marks that are cut may be fewer marks, and a number that is cut a smaller one.
			if checkParse(t, line[:at]) && !strings.ContainsAny(line[:1], "crt") {
				t.Errorf("%q is taken", line[:at])
			}
			for x := range 256 {
				checkParse(t, line[:at]+string([]byte{byte(x)})+line[at+1:])
				checkParse(t, line[:at]+string([]byte{byte(x)})+line[at:])
			}
			checkParse(t, line[:at]+line[at+1:])
			if line[at] == ' ' && !strings.HasPrefix(line, "text") && checkParse(t, line[:at]+" "+line[at:]) {
				t.Errorf("%q is taken with two blanks at %d", line, at)
			}
		}
		for _, more := range []string{" ", "\n", "\x00", "\"", "\\", "x", " x", " 5", "\xff"} {
			misparse(t, more+line, 0)
			if more != " 5" && checkParse(t, line+more) {
				t.Errorf("%q is taken with %q behind it", line, more)
			}
		}
	}
}

// Drawn lines, spoiled.
func TestParseOfDrawn(t *testing.T) {
	d := newDrawer(308)
	taken, refused := 0, 0
	for range 8000 {
		line := lineByWords(d.any())
		if !checkParse(t, line) {
			t.Fatalf("%q is not taken", line)
		}
		if checkParse(t, string(d.spoil([]byte(line)))) {
			taken++
		} else {
			refused++
		}
	}
	if taken < 500 || refused < 2000 {
		t.Errorf("%d taken, %d refused", taken, refused)
	}
}

// Lines that are long and wrong at their end are still refused at once.
func TestParseOfLongLines(t *testing.T) {
	const n = 1 << 20
	for _, s := range []string{
		`text "` + strings.Repeat(`\u{`, n), `text "` + strings.Repeat(`\u{`, n) + `"`, `text "` + strings.Repeat(`\u{`, n) + `}"`, `text "` + strings.Repeat(`\`, n), `text "` + strings.Repeat("a", n), `text "` + strings.Repeat("a", n) + `"`,
	} {
		misparseLong(t, s, 5)
	}
	misparseLong(t, "came"+strings.Repeat(" ", n), 5)
	misparseLong(t, "came "+strings.Repeat("9", n), 5)
	misparseLong(t, "timer "+strings.Repeat("0", n), 6)
	misparseLong(t, "place "+strings.Repeat("0", n), 6)
	misparseLong(t, `file "a" 5 `+strings.Repeat("0", n), 11)
	misparseLong(t, strings.Repeat("x", n), 0)
}

// misparseLong does not hold against the words, which take their time.
func misparseLong(t *testing.T, s string, at int) {
	t.Helper()
	if c, place, e := content.Parse(s); !zero(c) || place != at || e != api.ErrContent {
		t.Errorf("%.20q..: %d, %v, not an error at %d", s, place, e, at)
	}
}
