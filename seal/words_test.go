package seal_test

import (
	"bytes"
	"crypto/aes"
	"crypto/cipher"
	"crypto/hkdf"
	"crypto/hmac"
	"crypto/sha256"
	"encoding/binary"
	"math/rand"
	"slices"
	"testing"

	"pawl/api"
	"pawl/seal"
)

// What the chapter says, done as it is said, by Go's own library and by nothing of the program; and what several tests draw and hold against each other.

// keysByWords is the 64 bytes that a key is expanded to, in two halves.
func keysByWords(t *testing.T, key api.Key) (crypt, tag api.Key) {
	t.Helper()
	all, err := hkdf.Expand(sha256.New, key[:], "pawl seal", 64)
	if err != nil {
		t.Fatal(err)
	}
	return api.Key(all[:32]), api.Key(all[32:])
}

// tagByWords is the tag of a key, a nonce, extra bytes and a cipher text.
func tagByWords(t *testing.T, key api.Key, nonce api.Nonce, extra, text []byte) []byte {
	t.Helper()
	_, tagKey := keysByWords(t, key)
	under := binary.LittleEndian.AppendUint64(nil, uint64(len(extra)))
	under = append(under, extra...)
	under = append(under, nonce[:]...)
	under = append(under, text...)
	h := hmac.New(sha256.New, tagKey[:])
	h.Write(under)
	return h.Sum(nil)[:16]
}

// textByWords is a plain text turned by the stream.
func textByWords(t *testing.T, key api.Key, nonce api.Nonce, plain []byte) []byte {
	t.Helper()
	crypt, _ := keysByWords(t, key)
	c, err := aes.NewCipher(crypt[:])
	if err != nil {
		t.Fatal(err)
	}
	out := make([]byte, len(plain))
	cipher.NewCTR(c, nonce[:]).XORKeyStream(out, plain)
	return out
}

// boxByWords is a cipher text and its tag behind it.
func boxByWords(t *testing.T, key api.Key, nonce api.Nonce, extra, plain []byte) []byte {
	t.Helper()
	return tagged(t, key, nonce, extra, textByWords(t, key, nonce, plain))
}

// tagged is a cipher text, whoever made it, with the tag that it must have.
func tagged(t *testing.T, key api.Key, nonce api.Nonce, extra, text []byte) []byte {
	t.Helper()
	return slices.Concat(text, tagByWords(t, key, nonce, extra, text))
}

// sealed is a box that Seal made.
func sealed(t *testing.T, key api.Key, nonce api.Nonce, extra, plain []byte) []byte {
	t.Helper()
	box, e := seal.Seal(key, nonce, extra, plain)
	if e != api.OK {
		t.Fatalf("Seal of %d bytes with %d extra: %v", len(plain), len(extra), e)
	}
	return box
}

// checkOpens holds that a box opens to a plain text.
func checkOpens(t *testing.T, key api.Key, nonce api.Nonce, extra, box, want []byte) {
	t.Helper()
	got, e := seal.Open(key, nonce, extra, box)
	if e != api.OK || !bytes.Equal(got, want) {
		t.Errorf("Open of %d bytes with %d extra under %x and %x: %.40x, %v, not %.40x", len(box), len(extra), key, nonce, got, e, want)
	}
}

// checkRefused holds that a box is refused, for a reason.
func checkRefused(t *testing.T, key api.Key, nonce api.Nonce, extra, box []byte, why api.Errno) {
	t.Helper()
	got, e := seal.Open(key, nonce, extra, box)
	if e != why || got != nil {
		t.Errorf("Open of %d bytes with %d extra under %x and %x: %.40x, %v, not %v", len(box), len(extra), key, nonce, got, e, why)
	}
}

// xored is two lists of one length, byte by byte.
func xored(a, b []byte) []byte {
	out := make([]byte, len(a))
	for i := range a {
		out[i] = a[i] ^ b[i]
	}
	return out
}

// turned is a list in which one bit is another.
func turned(b []byte, bit int) []byte {
	out := slices.Clone(b)
	out[bit/8] ^= 1 << (bit % 8)
	return out
}

func drawn(r *rand.Rand, n int) []byte {
	b := make([]byte, n)
	r.Read(b)
	return b
}

func drawnKey(r *rand.Rand) api.Key     { return api.Key(drawn(r, api.KeySize)) }
func drawnNonce(r *rand.Rand) api.Nonce { return api.Nonce(drawn(r, api.NonceSize)) }

// evenKey and evenNonce have one byte throughout.
func evenKey(x byte) api.Key     { return api.Key(bytes.Repeat([]byte{x}, api.KeySize)) }
func evenNonce(x byte) api.Nonce { return api.Nonce(bytes.Repeat([]byte{x}, api.NonceSize)) }

// manyKeys is zeros, ones, each bit alone, and some that were drawn.
func manyKeys(r *rand.Rand, n int) []api.Key {
	list := []api.Key{evenKey(0), evenKey(1), evenKey(0xff), evenKey(0x36), evenKey(0x5c)}
	for bit := range 8 * api.KeySize {
		list = append(list, api.Key(turned(make([]byte, api.KeySize), bit)))
	}
	for range n {
		list = append(list, drawnKey(r))
	}
	return list
}

// manyNonces is zeros, ones, some whose counter runs over within the bytes or at their end, and one that was drawn.
func manyNonces(r *rand.Rand) []api.Nonce {
	list := []api.Nonce{evenNonce(0), evenNonce(1), evenNonce(0xff), drawnNonce(r)}
	low, last := evenNonce(0), evenNonce(0xff)
	low[15], last[15] = 0xff, 0xfe
	return append(list, low, last)
}

// fill puts other bytes into a list.
func fill(b []byte) {
	for i := range b {
		b[i] ^= 0xee
	}
}
