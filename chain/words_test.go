package chain_test

import (
	"crypto/hkdf"
	"crypto/hmac"
	"crypto/sha256"
	"encoding/hex"
	"math"
	"math/rand"
	"slices"
	"testing"

	"pawl/api"
	"pawl/chain"
)

// What the chapter says, done as it is said, by Go's own library; and what several tests draw and hold against each other.

const mostCount = 4294967295

// numbers are those at which a chain may stand: at its ends, about the places where a number's bits turn, and between.
var numbers = []uint32{0, 1, 2, 3, 100, 127, 128, 255, 256, 65535, 65536, 1<<31 - 2, 1<<31 - 1, 1 << 31, 1<<31 + 1, 3000000000,
	mostCount - 20, mostCount - 3, mostCount - 2, mostCount - 1, mostCount}

// below are numbers below 0, those among them that come to more if bits or the sign are lost.
var below = []int{-1, -2, -3, -5, -100, -1 << 31, -1<<31 - 1, -1<<32 + 3, -1 << 32, -1<<32 - 1, -1<<40 + 5, math.MinInt + 5, math.MinInt + 1, math.MinInt}

// above are numbers above all counters, those among them that come to few or none if bits are lost.
var above = []int{mostCount + 1, mostCount + 2, mostCount + 3, 1 << 33, 1<<40 + 1, math.MaxInt - 1, math.MaxInt}

// item is a message of a chain: its number, its key.
type item struct {
	n   uint32
	key api.Key
}

// hmacByWords is the HMAC of a key and one byte.
func hmacByWords(key api.Key, b byte) api.Key {
	h := hmac.New(sha256.New, key[:])
	h.Write([]byte{b})
	return api.Key(h.Sum(nil))
}

// chainByWords is a chain as 11.2 tells it; its number has room beyond the end.
type chainByWords struct {
	key api.Key
	n   uint64
}

func (c *chainByWords) step() item {
	passed := item{uint32(c.n), hmacByWords(c.key, 1)}
	c.key, c.n = hmacByWords(c.key, 2), c.n+1
	return passed
}

func (c *chainByWords) next() (api.Key, api.Errno) {
	if c.n == mostCount {
		return api.Key{}, api.ErrExhausted
	}
	return c.step().key, api.OK
}

func (c *chainByWords) skip(to uint32, most int) ([]api.Key, api.Errno) {
	if uint64(to) < c.n {
		return nil, api.ErrArg
	}
	if most < 0 || uint64(to)-c.n > uint64(most) {
		return nil, api.ErrSkip
	}
	var keys []api.Key
	for c.n < uint64(to) {
		keys = append(keys, c.step().key)
	}
	return keys, api.OK
}

// ahead goes on with a chain of its own.
func (c chainByWords) ahead(n int) []item {
	var out []item
	for len(out) < n && c.n < mostCount {
		out = append(out, c.step())
	}
	return out
}

// both are a chain and what the words make of it, at one key and number.
func both(key api.Key, n uint32) (*chain.Chain, *chainByWords) {
	return chain.New(key, n), &chainByWords{key, uint64(n)}
}

// checkStand holds where a chain stands against the words.
func checkStand(t *testing.T, what string, c *chain.Chain, w *chainByWords) {
	t.Helper()
	if uint64(c.N()) != w.n || c.Key() != w.key {
		t.Fatalf("%s: it stands at %d with %x, not at %d with %x", what, c.N(), c.Key(), w.n, w.key)
	}
}

// checkNext goes a step with both.
func checkNext(t *testing.T, c *chain.Chain, w *chainByWords) {
	t.Helper()
	n := w.n
	want, wantE := w.next()
	if got, e := c.Next(); got != want || e != wantE {
		t.Fatalf("Next at %d: %x, %v, not %x, %v", n, got, e, want, wantE)
	}
	checkStand(t, "behind Next", c, w)
}

// checkSkip skips with both.
func checkSkip(t *testing.T, c *chain.Chain, w *chainByWords, to uint32, most int) {
	t.Helper()
	n := w.n
	want, wantE := w.skip(to, most)
	if got, e := c.Skip(to, most); !slices.Equal(got, want) || e != wantE {
		t.Fatalf("Skip(%d, %d) at %d: %d keys, %v, not %d, %v", to, most, n, len(got), e, len(want), wantE)
	}
	checkStand(t, "behind Skip", c, w)
}

// gone is all that a going through gives.
func gone(seq func(func(uint32, api.Key) bool)) []item {
	var out []item
	for n, key := range seq {
		out = append(out, item{n, key})
	}
	return out
}

// checkAhead goes through all that is ahead.
func checkAhead(t *testing.T, c *chain.Chain, w *chainByWords, n int) {
	t.Helper()
	want := w.ahead(n)
	if got := gone(c.Ahead(n)); !slices.Equal(got, want) {
		t.Fatalf("Ahead(%d) at %d: %v, not %v", n, w.n, got, want)
	}
	checkStand(t, "behind Ahead", c, w)
}

// libraryBytes are those that a call of Go's own library gives.
func libraryBytes(t *testing.T, b []byte, err error) []byte {
	t.Helper()
	if err != nil {
		t.Fatal(err)
	}
	return b
}

func rootByWords(t *testing.T, root, secret api.Key) []byte {
	t.Helper()
	b, err := hkdf.Key(sha256.New, secret[:], root[:], "pawl root", 96)
	return libraryBytes(t, b, err)
}

func messageByWords(t *testing.T, key api.Key) []byte {
	t.Helper()
	b, err := hkdf.Expand(sha256.New, key[:], "pawl message", 48)
	return libraryBytes(t, b, err)
}

// read is bytes that are told in hex.
func read(t *testing.T, s string) []byte {
	t.Helper()
	b, err := hex.DecodeString(s)
	if err != nil {
		t.Fatal(err)
	}
	return b
}

type drawer struct{ *rand.Rand }

func newDrawer(seed int64) drawer { return drawer{rand.New(rand.NewSource(seed))} }

// key is one of any bytes; now and then one of bytes that are all alike.
func (d drawer) key() api.Key {
	var k api.Key
	if d.Intn(20) == 0 {
		same := byte(d.Intn(256))
		for i := range k {
			k[i] = same
		}
		return k
	}
	d.Read(k[:])
	return k
}

// number is one at which a chain may stand.
func (d drawer) number() uint32 {
	if d.Intn(2) == 0 {
		return numbers[d.Intn(len(numbers))]
	}
	return d.Uint32() >> d.Intn(32)
}

// keys are keys of which each byte and bit counts: the extreme ones, and those with one bit.
func keys() []api.Key {
	var all []api.Key
	for _, b := range []byte{0, 1, 2, 0x36, 0x5c, 0x7f, 0x80, 0xff} {
		var k api.Key
		for i := range k {
			k[i] = b
		}
		all = append(all, k)
	}
	for bit := range 256 {
		var k api.Key
		k[bit/8] = 1 << (bit % 8)
		all = append(all, k)
	}
	return all
}
