package audit

import (
	"slices"
	"strconv"
	"strings"

	"pawl/api"
	"pawl/content"
	"pawl/hex"
	"pawl/script"
)

// The words with which answers begin that the rules look at.
const (
	sent    = "sent"
	refused = "refused"
	missing = "missing"
	heard   = "heard"
	bytes   = "bytes"
	export  = "export"
)

const (
	decimals = "0123456789"

	groups      = 12 // of a safety number
	groupDigits = 5
	mostDigits  = 10 // of a number
	sumDigits   = 64
)

// answer is the words of one. What can have blanks in it, a content's line or a safety number, is one word, the last.
type answer []string

// whichever stands in an answer that must come for a word that is not looked at.
const whichever = ""

// is: the answer is the one that must come.
func (a answer) is(must answer) bool {
	return slices.EqualFunc(a, must, func(word, want string) bool { return want == whichever || word == want })
}

// work is the trials and steps that an answer tells; 0 and 0, if it tells none.
func (a answer) work() (trials, steps string) {
	switch {
	case a[0] == heard, a[0] == bytes:
		return a[1], a[2]
	case a[0] == refused && len(a) == 5:
		return a[3], a[4]
	}
	return number(0), number(0)
}

// tell is an answer of a word and numbers; number is one of these.
func tell(word string, numbers ...int) answer {
	a := answer{word}
	for _, n := range numbers {
		a = append(a, number(n))
	}
	return a
}

func number(n int) string { return strconv.Itoa(n) }

// form is how an answer is made: its first word, and what the others are. The last one goes up to the answer's end.
type form struct {
	word   string
	others []func(word string) bool
}

func formOf(word string, others ...func(word string) bool) form { return form{word, others} }

// read is the words of an answer, and whether it is of one of the forms.
func read(forms []form, text string) (answer, bool) {
	for _, f := range forms {
		if a, ok := f.read(text); ok {
			return a, true
		}
	}
	return nil, false
}

func (f form) read(text string) (answer, bool) {
	a := answer(strings.SplitN(text, " ", 1+len(f.others)))
	if len(a) != 1+len(f.others) || a[0] != f.word {
		return nil, false
	}
	for i, fits := range f.others {
		if !fits(a[i+1]) {
			return nil, false
		}
	}
	return a, true
}

// isNumber, isFlag, isSum, isLine, isBytes and isSafety tell what a word of an answer is.

func isNumber(word string) bool { return script.Decimal(mostDigits)(word) }

func isFlag(word string) bool { return word == "0" || word == "1" }

func isSum(word string) bool {
	_, ok := hex.Bytes(word)
	return ok && len(word) == sumDigits
}

// isLine: a content's line. isBytes: bytes that are none of a content.
func isLine(word string) bool {
	_, _, why := content.Parse(word)
	return why == api.OK
}

func isBytes(word string) bool {
	_, err := content.Decode(script.Bytes(word))
	return script.Hex(word) && err != nil
}

func isSafety(word string) bool {
	all := strings.Split(word, " ")
	other := func(group string) bool { return len(group) != groupDigits || strings.Trim(group, decimals) != "" }
	return len(all) == groups && !slices.ContainsFunc(all, other)
}

// above: a number of an answer's is greater than that.
func above(word string, most int) bool {
	n, _ := strconv.ParseInt(word, 10, 64) // nil: so few digits are always a number
	return n > int64(most)
}
