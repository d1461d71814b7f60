package agree

import (
	"bytes"
	"slices"
	"strconv"
	"strings"

	"pawl/api"
	"pawl/hash"
)

// safetyName keeps these hashes of keys apart from all others.
const safetyName = "pawl safety"

// A safety number tells of each key so many groups, each of so many digits, made of so many bytes of its hash.
const (
	groupCount  = 6
	groupDigits = 5
	groupBytes  = 5
	groupEnd    = 100000 // the first number that has more digits
)

// Safety is the number that two people can read to one another: 60 digits in groups of five.
func Safety(a, b api.Key, rounds int) (string, api.Errno) {
	if rounds < 1 || rounds > api.MaxRounds {
		return "", api.ErrArg
	}
	if bytes.Compare(a[:], b[:]) > 0 { // one order, so that both people read the same
		a, b = b, a
	}
	return strings.Join(slices.Concat(groups(a, rounds), groups(b, rounds)), " "), api.OK
}

// groups are the digits of a key, hashed so often that it takes long to find another key with the same ones.
func groups(k api.Key, rounds int) []string {
	h := hash.Sum(slices.Concat([]byte(safetyName), k[:]))
	for range rounds - 1 {
		h = hash.Sum(slices.Concat(h[:], k[:]))
	}
	var out []string
	for i := range groupCount {
		out = append(out, group(h[groupBytes*i:groupBytes*(i+1)]))
	}
	return out
}

// group is the last digits of the number that bytes say, the highest first.
func group(b []byte) string {
	var n uint64
	for _, x := range b {
		n = n<<8 | uint64(x)
	}
	s := strconv.FormatUint(n%groupEnd, 10)
	return strings.Repeat("0", groupDigits-len(s)) + s
}
