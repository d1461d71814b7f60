package hex_test

import (
	"bytes"
	library "encoding/hex"
	"math/rand"
	"strings"
	"testing"

	"pawl/hex"
)

// There and back, against Go's own library.
func TestThereAndBack(t *testing.T) {
	r := rand.New(rand.NewSource(1))
	for n := range 300 {
		b := make([]byte, n)
		r.Read(b)
		text := hex.Text(b)
		back, ok := hex.Bytes(text)
		if text != library.EncodeToString(b) || !ok || !bytes.Equal(back, b) {
			t.Fatalf("%x: %q, %x, %v", b, text, back, ok)
		}
	}
}

// Each byte at each place of two digits: just the sixteen are digits.
func TestDigits(t *testing.T) {
	for first := range 256 {
		for second := range 256 {
			text := string([]byte{byte(first), byte(second)})
			want, err := library.DecodeString(text)
			taken := err == nil && strings.ToLower(text) == text
			b, ok := hex.Bytes(text)
			if ok != taken || ok && !bytes.Equal(b, want) || !ok && len(b) != 0 {
				t.Fatalf("%q: %x, %v", text, b, ok)
			}
		}
	}
}

// A digit too many, and digits that are none, at any place.
func TestNoDigits(t *testing.T) {
	for _, text := range []string{"0", "000", "00f", "-", "0g", "00 0", "00 00", " 0000", "0000 ", "AA", "0x00", "00\n", "0000000g", "é0"} {
		if b, ok := hex.Bytes(text); ok || len(b) != 0 {
			t.Errorf("%q: %x, %v", text, b, ok)
		}
	}
	if b, ok := hex.Bytes(""); !ok || len(b) != 0 {
		t.Errorf("no digits: %x, %v", b, ok)
	}
}
