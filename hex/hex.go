// Package hex writes bytes as hexadecimal digits: two a byte, the first one of the greater weight, none but 0 to 9 and a to f.
package hex

import "strings"

const digits = "0123456789abcdef"

// Text is the digits of bytes. Bytes reads them, and tells whether they are digits of bytes; else there are none.
func Text(b []byte) string {
	var out []byte
	for _, c := range b {
		out = append(out, digits[c/16], digits[c%16])
	}
	return string(out)
}

func Bytes(text string) ([]byte, bool) {
	var out []byte
	for ; len(text) >= 2; text = text[2:] {
		high, low := strings.IndexByte(digits, text[0]), strings.IndexByte(digits, text[1])
		if high < 0 || low < 0 {
			return nil, false
		}
		out = append(out, byte(16*high+low))
	}
	if text != "" {
		return nil, false
	}
	return out, true
}
