package session_test

import (
	"bytes"
	"crypto/aes"
	"crypto/cipher"
	"crypto/ecdh"
	"crypto/hkdf"
	"crypto/hmac"
	"crypto/sha256"
	"encoding/binary"
	"slices"
	"testing"

	"pawl/api"
)

// P1: the envelopes and states of a short talk, reckoned by Go's own library and by nothing of the program.

// fine is what a call of Go's own library gives, which refuses nothing of what it is handed here.
func fine[T any](x T, err error) T {
	if err != nil {
		panic(err)
	}
	return x
}

func private(seed []byte) *ecdh.PrivateKey { return fine(ecdh.X25519().NewPrivateKey(seed)) }

func public(seed []byte) []byte { return private(seed).PublicKey().Bytes() }

func clamped(seed []byte) []byte {
	b := slices.Clone(seed)
	b[0] &= 248
	b[31] = b[31]&127 | 64
	return b
}

func shared(seed, peer []byte) []byte {
	return fine(private(seed).ECDH(fine(ecdh.X25519().NewPublicKey(peer))))
}

func sum(key []byte, b ...byte) []byte {
	h := hmac.New(sha256.New, key)
	h.Write(b)
	return h.Sum(nil)
}

func box(key, nonce, extra, plain []byte) []byte {
	keys := fine(hkdf.Expand(sha256.New, key, "pawl seal", 64))
	text := make([]byte, len(plain))
	cipher.NewCTR(fine(aes.NewCipher(keys[:32])), nonce).XORKeyStream(text, plain)
	under := binary.LittleEndian.AppendUint64(nil, uint64(len(extra)))
	return append(text, sum(keys[32:], slices.Concat(under, extra, nonce, text)...)[:16]...)
}

// root turns a root: the next one, the chain's key, the header key behind.
func root(root, secret []byte) (next, chain, header []byte) {
	b := fine(hkdf.Key(sha256.New, secret, root, "pawl root", 96))
	return b[:32], b[32:64], b[64:]
}

// posted is an envelope's bytes, all keys being known; the body is one of 64 bytes.
func posted(version byte, message, under, from []byte, prev, n uint32, plain, extra string) []byte {
	keys := fine(hkdf.Expand(sha256.New, message, "pawl message", 48))
	nonce := keys[32:]
	head := slices.Concat([]byte{0x0a, 32}, from, countField(0x15, prev), countField(0x1d, n))
	body := append(binary.LittleEndian.AppendUint32(nil, uint32(len(plain))), plain...)
	body = append(body, make([]byte, 64-len(body))...)
	headBox := box(under, nonce, []byte{version}, head)
	bodyBox := box(keys[:32], nonce, slices.Concat([]byte{version}, nonce, headBox, []byte(extra)), body)
	return slices.Concat([]byte{8, version, 0x12, 16}, nonce, []byte{0x1a, 60}, headBox, []byte{0x22, 80}, bodyBox)
}

// Alice writes twice, Bob answers, Alice writes again.
func TestTalkByTheLibrary(t *testing.T) {
	for version := byte(1); version <= 2; version++ {
		c := api.Config{Version: int(version), Skip: 5, Store: 7}
		alice, bob := sides(t, c)
		one, two, three := seedOf(1), seedOf(2), seedOf(3)
		send := func(x duo, plain string, seed, want []byte) {
			t.Helper()
			if b, err := x.send(t, []byte(plain), []byte("x"), seed); err != nil || !bytes.Equal(b, want) {
				t.Fatalf("%s: %v\n%x, not\n%x", plain, err, b, want)
			}
		}
		root1, chainA, nextA := root(rootKey(), shared(one, public(bobSeed())))
		first := posted(version, sum(chainA, 1), keyA(), public(one), 0, 0, "first", "x")
		send(alice, "first", one, first)
		chainA = sum(chainA, 2)
		second := posted(version, sum(chainA, 1), keyA(), public(one), 0, 1, "second", "x")
		send(alice, "second", nil, second)
		bob.hears(t, second, "second", 1, 2)
		bob.hears(t, first, "first", 1, 0)
		root2, chainB, nextB := root(root1, shared(two, public(one)))
		answer := posted(version, sum(chainB, 1), keyB(), public(two), 0, 0, "answer", "x")
		send(bob, "answer", two, answer)
		alice.hears(t, answer, "answer", 1, 1)
		root3, chainC, nextC := root(root2, shared(three, public(two)))
		third := posted(version, sum(chainC, 1), nextA, public(three), 2, 0, "third", "x")
		send(alice, "third", three, third)
		bob.hears(t, third, "third", 2, 1)
		down := slices.Concat([]byte{8, version, 0x10, 5, 0x18, 7, 0x22, 32}, root3,
			[]byte{0x2a, 69, 68, 0x0a, 32}, clamped(three), []byte{0x12, 32}, public(three),
			[]byte{0x32, 35, 34, 0x0a, 32}, public(two), []byte{0x38, 0},
			[]byte{0x42, 74, 73, 0x0a, 32}, sum(chainC, 2), []byte{0x12, 32}, nextA, []byte{0x1d, 1, 0, 0, 0},
			[]byte{0x4a, 32}, nextC, []byte{0x55, 2, 0, 0, 0},
			[]byte{0x5a, 74, 73, 0x0a, 32}, sum(chainB, 2), []byte{0x12, 32}, keyB(), []byte{0x1d, 1, 0, 0, 0},
			[]byte{0x62, 32}, nextB, []byte{0x6a, 0})
		if b := alice.s.Export(); !bytes.Equal(b, down) {
			t.Fatalf("Export: %x, not\n%x", b, down)
		}
	}
}
