package names_test

import (
	"strings"
	"testing"

	"pawl/names"
)

func TestIs(t *testing.T) {
	for n := range 40 {
		if got := names.Is(strings.Repeat("q", n)); got != (n >= 1 && n <= 16) {
			t.Errorf("%d letters: %v", n, got)
		}
	}
	for _, text := range []string{"a", "z", "ann", "abcdefghijklmnop", "qrstuvwxyz"} {
		if !names.Is(text) {
			t.Errorf("%q is none", text)
		}
	}
	for _, text := range []string{"Ann", "ann ", " ann", "a b", "ann1", "änn", "\x00", "ann\x00", "a\xe1", "\xff", "{", "`", "ａ", strings.Repeat("ö", 8), strings.Repeat("a", 1<<20)} {
		if names.Is(text) {
			t.Errorf("%q is one", text)
		}
	}
}

// Each byte at each place of a name.
func TestEachByte(t *testing.T) {
	for n := 1; n <= 16; n++ {
		for at := range n {
			for to := range 256 {
				text := []byte(strings.Repeat("m", n))
				text[at] = byte(to)
				if got := names.Is(string(text)); got != (to >= 'a' && to <= 'z') {
					t.Errorf("%q: %v", text, got)
				}
			}
		}
	}
}
