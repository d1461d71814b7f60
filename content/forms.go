package content

import (
	"strconv"
	"strings"
	"unicode/utf8"

	"pawl/api"
	"pawl/hex"
)

const floatDigits = 16

// form is how a value of that kind of slot stands in a line.
func form(slotKind int, v api.Value) string {
	switch slotKind {
	case api.KText:
		return quote(string(v.Data))
	case api.KFloat:
		digits := strconv.FormatUint(v.Num, 16)
		return strings.Repeat("0", floatDigits-len(digits)) + digits
	case api.KBytes:
		return hex.Text(v.Data)
	}
	return strconv.FormatUint(v.Num, 10)
}

// unform is the value whose form a thing is, if it is one; else any.
func unform(slotKind int, thing string) api.Value {
	switch slotKind {
	case api.KText:
		return api.Value{Data: unquote(thing)}
	case api.KFloat:
		return api.Value{Num: numberOf(thing, 16)}
	case api.KBytes:
		b, _ := hex.Bytes(thing)
		return api.Value{Data: b}
	}
	return api.Value{Num: numberOf(thing, 10)}
}

func numberOf(digits string, base int) uint64 {
	n, err := strconv.ParseUint(digits, base, 64)
	if err != nil {
		return 0
	}
	return n
}

// quote makes a quoted text.
func quote(text string) string {
	out := []byte{'"'}
	for _, r := range text {
		switch {
		case r == '"', r == '\\':
			out = append(out, '\\', byte(r))
		case r >= ' ' && r <= '~':
			out = append(out, byte(r))
		default:
			out = append(out, `\u{`...)
			out = strconv.AppendInt(out, int64(r), 16)
			out = append(out, '}')
		}
	}
	return string(append(out, '"'))
}

// unquote reads a quoted text; of one that can't be, it makes none.
func unquote(quoted string) []byte {
	if quoted == "" {
		return nil
	}
	var out []byte
	rest := quoted[1 : len(quoted)-1]
	for rest != "" {
		plain, escape, found := strings.Cut(rest, `\`)
		out = append(out, plain...)
		if !found {
			break
		}
		r, size := escaped(escape)
		if size == 0 {
			return nil
		}
		out = utf8.AppendRune(out, r)
		rest = escape[size:]
	}
	return out
}

// escaped reads the character for which the first bytes behind a backslash stand, and tells how many they are; 0, if they stand for none.
func escaped(s string) (rune, int) {
	numbered, ok := strings.CutPrefix(s, "u{")
	if !ok {
		return utf8.DecodeRuneInString(s)
	}
	digits, _, ok := strings.Cut(numbered, "}")
	n, err := strconv.ParseInt(digits, 16, 32)
	if !ok || err != nil {
		return 0, 0
	}
	return rune(n), len("u{") + len(digits) + len("}")
}

// upToBlank is what stands ahead of the first blank.
func upToBlank(s string) string {
	ahead, _, _ := strings.Cut(s, " ")
	return ahead
}

// upToQuote is the quoted text with which s begins; empty, if it does not begin with a quote, or that text does not end.
func upToQuote(s string) string {
	if !strings.HasPrefix(s, `"`) {
		return ""
	}
	within := false // a pair that a backslash began
	for at, r := range s[1:] {
		switch {
		case within:
			within = false
		case r == '\\':
			within = true
		case r == '"':
			return s[:at+2]
		}
	}
	return ""
}
