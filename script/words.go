package script

import (
	"slices"
	"strconv"
	"strings"

	"pawl/hex"
)

const (
	digits  = "0123456789"
	letters = "abcdefghijklmnopqrstuvwxyz"

	mostDigits = 9  // of a number
	mostSeed   = 64 // bytes of a seed's word

	noBytes = "-" // the word that stands for no bytes
)

// Number, Decimal, UpTo, Seed, Letters, OneOf and Hex tell what a word is. No empty one is any of it.

// Number: a decimal number, with no 0 ahead of its other digits. Decimal: one of at most so many digits. UpTo: one that is at most so great.
func Number(word string) bool { return Decimal(mostDigits)(word) }

func Decimal(most int) func(word string) bool {
	return func(word string) bool {
		return made(word, digits, most) && (word == "0" || word[0] != '0')
	}
}

func UpTo(most int) func(word string) bool {
	return func(word string) bool { return Number(word) && Int(word) <= most }
}

// Seed: a word that gives a seed.
func Seed(word string) bool { return made(word, letters+digits+"-", mostSeed) }

// Letters: at most so many small letters.
func Letters(most int) func(word string) bool {
	return func(word string) bool { return made(word, letters, most) }
}

// OneOf: one of these words.
func OneOf(words ...string) func(word string) bool {
	return func(word string) bool { return slices.Contains(words, word) }
}

// Hex: bytes as digits, or the word for none.
func Hex(word string) bool {
	_, ok := hex.Bytes(word)
	return word == noBytes || ok && word != ""
}

// made tells whether a word is made of these bytes alone, of at least one and at most so many.
func made(word, of string, most int) bool {
	return word != "" && len(word) <= most && strings.Trim(word, of) == ""
}

// Int is the number that a word tells, Bytes the bytes that one stands for; HexOf is the word that stands for bytes.
func Int(word string) int {
	n, _ := strconv.Atoi(word) // nil: so few digits are always a number
	return n
}

func Bytes(word string) []byte {
	b, _ := hex.Bytes(word) // none of the word for no bytes, too
	return b
}

func HexOf(b []byte) string {
	if len(b) == 0 {
		return noBytes
	}
	return hex.Text(b)
}
