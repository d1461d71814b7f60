package lab_test

import (
	"crypto/aes"
	"crypto/cipher"
	"crypto/ecdh"
	"crypto/hkdf"
	"crypto/hmac"
	"crypto/sha256"
	"encoding/binary"
	"fmt"
	"slices"
	"strings"
	"testing"
)

// What a beginning gives, and the first message, reckoned by Go's own library and by nothing of the program.

// fine is what a call of Go's own library gives, which refuses nothing of what it is handed here.
func fine[T any](x T, err error) T {
	if err != nil {
		panic(err)
	}
	return x
}

func private(word string) *ecdh.PrivateKey { return fine(ecdh.X25519().NewPrivateKey(sumOf(word))) }

func public(word string) []byte { return private(word).PublicKey().Bytes() }

func shared(one, other string) []byte { return fine(private(one).ECDH(private(other).PublicKey())) }

func clamped(word string) []byte {
	b := sumOf(word)
	b[0] &= 248
	b[31] = b[31]&127 | 64
	return b
}

// secrets are what the two agree on: the shared one and both header keys.
func secrets(seed string, once bool) (root, headerA, headerB []byte) {
	all := slices.Repeat([]byte{0xff}, 32)
	all = append(all, shared(seed+"/alice", seed+"/signed")...)
	all = append(all, shared(seed+"/fresh", seed+"/bob")...)
	all = append(all, shared(seed+"/fresh", seed+"/signed")...)
	if once {
		all = append(all, shared(seed+"/fresh", seed+"/once")...)
	}
	b := fine(hkdf.Key(sha256.New, all, make([]byte, 32), "pawl agree", 96))
	return b[:32], b[32:64], b[64:]
}

func digitsOf(key []byte) string {
	h := sumOf("pawl safety" + string(key))
	for range 7 {
		h = sumOf(string(h) + string(key))
	}
	var groups []string
	for i := range 6 {
		n := binary.BigEndian.Uint64(append(make([]byte, 3), h[5*i:5*i+5]...))
		groups = append(groups, fmt.Sprintf("%05d", n%100000))
	}
	return strings.Join(groups, " ")
}

func keyedSum(key []byte, b ...byte) []byte {
	h := hmac.New(sha256.New, key)
	h.Write(b)
	return h.Sum(nil)
}

func box(key, nonce, extra, plain []byte) []byte {
	keys := fine(hkdf.Expand(sha256.New, key, "pawl seal", 64))
	text := make([]byte, len(plain))
	cipher.NewCTR(fine(aes.NewCipher(keys[:32])), nonce).XORKeyStream(text, plain)
	under := binary.LittleEndian.AppendUint64(nil, uint64(len(extra)))
	return append(text, keyedSum(keys[32:], slices.Concat(under, extra, nonce, text)...)[:16]...)
}

// firstMessage is the envelope with which Alice begins, with the seed of a word.
func firstMessage(version byte, root, headerA, extra []byte, seed, word string, plain []byte) []byte {
	turned := fine(hkdf.Key(sha256.New, shared(word, seed+"/signed"), root, "pawl root", 96))
	keys := fine(hkdf.Expand(sha256.New, keyedSum(turned[32:64], 1), "pawl message", 48))
	nonce := keys[32:]
	head := slices.Concat([]byte{0x0a, 32}, public(word), []byte{0x15, 0, 0, 0, 0, 0x1d, 0, 0, 0, 0})
	body := append(binary.LittleEndian.AppendUint32(nil, uint32(len(plain))), plain...)
	body = append(body, make([]byte, 64-len(body))...)
	headBox := box(headerA, nonce, []byte{version}, head)
	bodyBox := box(keys[:32], nonce, slices.Concat([]byte{version}, nonce, headBox, extra), body)
	return slices.Concat([]byte{8, version, 0x12, 16}, nonce, []byte{0x1a, 60}, headBox, []byte{0x22, 80}, bodyBox)
}

func TestBeginByTheLibrary(t *testing.T) {
	for version := byte(1); version <= 2; version++ {
		for i, seed := range []string{"s", "a-1", strings.Repeat("9", 64), "-"} {
			once := i%2 == 0
			root, headerA, headerB := secrets(seed, once)
			config := []byte{8, version, 0x10, 5, 0x18, 7, 0x22, 32}
			alice := slices.Concat(config, root, []byte{0x2a, 0, 0x32, 35, 34, 0x0a, 32}, public(seed+"/signed"), []byte{0x38, 1, 0x42, 0, 0x4a, 32}, headerA,
				[]byte{0x55, 0, 0, 0, 0, 0x5a, 0, 0x62, 32}, headerB, []byte{0x6a, 0})
			bob := slices.Concat(config, root, []byte{0x2a, 69, 68, 0x0a, 32}, clamped(seed+"/signed"), []byte{0x12, 32}, public(seed+"/signed"), []byte{0x32, 0, 0x38, 0, 0x42, 0, 0x4a, 32}, headerB,
				[]byte{0x55, 0, 0, 0, 0, 0x5a, 0, 0x62, 32}, headerA, []byte{0x6a, 0})
			extra := append(public(seed+"/alice"), public(seed+"/bob")...)
			first := firstMessage(version, root, headerA, extra, seed, "b-2", []byte{8, 1, 0x12, 2, 'h', 'i'})
			safety := []string{digitsOf(public(seed + "/alice")), digitsOf(public(seed + "/bob"))}
			if string(public(seed+"/alice")) > string(public(seed+"/bob")) {
				slices.Reverse(safety)
			}
			word := map[bool]string{true: "once", false: "none"}[once]
			plays(t, script(fmt.Sprintf("begin %d 5 7 %s %s", version, seed, word), "export alice", "export bob", "save bob x", "forge "+tohex(first)+" bob", "load bob x", `send alice b-2 text "hi"`, "give 1 bob", "forge "+tohex(first)+" bob"),
				"begun "+strings.Join(safety, " "),
				fmt.Sprintf("export %d %x", len(alice), sumOf(string(alice))),
				fmt.Sprintf("export %d %x", len(bob), sumOf(string(bob))),
				fmt.Sprintf("saved %d", len(bob)), `heard 1 1 text "hi"`, fmt.Sprintf("loaded %d", len(bob)), "sent 1 164", `heard 1 1 text "hi"`, "refused 4 134 1 0")
		}
	}
}
