package block_test

import (
	"bytes"
	"math/rand"
	"testing"

	"pawl/api"
	"pawl/block"
)

// P5.3

func TestKeysExamples(t *testing.T) {
	for _, c := range []struct {
		key    string
		column int
		want   string
	}{
		{"000102030405060708090a0b0c0d0e0f101112131415161718191a1b1c1d1e1f", 0, "000102030405060708090a0b0c0d0e0f101112131415161718191a1b1c1d1e1fa573c29f"},
		{"000102030405060708090a0b0c0d0e0f101112131415161718191a1b1c1d1e1f", 56, "24fc79ccbf0979e9371ac23c6d68de36"},
		{"603deb1015ca71be2b73aef0857d77811f352c073b6108d72d9810a30914dff4", 8, "9ba354118e6925afa51a8b5f2067fcde a8b09c1a93d194cdbe49846eb75d5b9a"},
		{"603deb1015ca71be2b73aef0857d77811f352c073b6108d72d9810a30914dff4", 56, "fe4890d1e6188d0b046df344706c631e"},
		{"0000000000000000000000000000000000000000000000000000000000000000", 8, "62636363626363636263636362636363 aafbfbfbaafbfbfbaafbfbfbaafbfbfb"},
		{"0000000000000000000000000000000000000000000000000000000000000000", 56, "10f80a1753bf729c45c979e7cb706385"},
		{"ffffffffffffffffffffffffffffffffffffffffffffffffffffffffffffffff", 8, "e8e9e9e917161616e8e9e9e917161616"},
	} {
		all := joined(block.Keys(api.Key(read(t, c.key))))
		want := read(t, c.want)
		if got := all[4*c.column : 4*c.column+len(want)]; !bytes.Equal(got, want) {
			t.Errorf("under %s from w(%d) on: %x, not %x", c.key, c.column, got, want)
		}
	}
}

func TestKeysColumnByColumn(t *testing.T) {
	sub := subByWords(t)
	for _, key := range manyKeys(71, 300) {
		all := joined(block.Keys(key))
		for i, want := range keysByWords(key, sub) {
			if got := [4]byte(all[4*i:]); got != want {
				t.Errorf("under %x w(%d): %x, not %x", key, i, got, want)
			}
		}
	}
}

func TestKeysHangOnTheKeyAlone(t *testing.T) {
	key := counted()
	first := block.Keys(key)
	for i := range first {
		first[i] = evenBlock(0xee)
	}
	block.Keys(evenKey(0xff))
	want := keysByWords(counted(), subByWords(t))
	all := joined(block.Keys(key))
	for i := range want {
		if [4]byte(all[4*i:]) != want[i] {
			t.Errorf("asked again, w(%d): %x, not %x", i, all[4*i:4*i+4], want[i])
		}
	}
	if key != counted() {
		t.Errorf("the key is now %x", key)
	}
}

// P5.4

func TestEncryptExamples(t *testing.T) {
	for _, c := range []struct{ key, plain, want string }{
		{"000102030405060708090a0b0c0d0e0f101112131415161718191a1b1c1d1e1f", "00112233445566778899aabbccddeeff", "8ea2b7ca516745bfeafc49904b496089"},
		{"603deb1015ca71be2b73aef0857d77811f352c073b6108d72d9810a30914dff4", "6bc1bee22e409f96e93d7e117393172a", "f3eed1bdb5d2a03c064b5a7e3db181f8"},
		{"603deb1015ca71be2b73aef0857d77811f352c073b6108d72d9810a30914dff4", "ae2d8a571e03ac9c9eb76fac45af8e51", "591ccb10d410ed26dc5ba74a31362870"},
		{"603deb1015ca71be2b73aef0857d77811f352c073b6108d72d9810a30914dff4", "30c81c46a35ce411e5fbc1191a0a52ef", "b6ed21b99ca6f4f9f153e7b1beafed1d"},
		{"603deb1015ca71be2b73aef0857d77811f352c073b6108d72d9810a30914dff4", "f69f2445df4f9b17ad2b417be66c3710", "23304b7a39f9f3ff067d8d8f9e24ecc7"},
		{"0000000000000000000000000000000000000000000000000000000000000000", "00000000000000000000000000000000", "dc95c078a2408989ad48a21492842087"},
	} {
		cipher := block.New(api.Key(read(t, c.key)))
		plain, want := block.Block(read(t, c.plain)), block.Block(read(t, c.want))
		if got := cipher.Encrypt(plain); got != want {
			t.Errorf("Encrypt of %s under %s: %x, not %x", c.plain, c.key, got, want)
		}
		if got := cipher.Decrypt(want); got != plain {
			t.Errorf("Decrypt of %s under %s: %x, not %x", c.want, c.key, got, plain)
		}
	}
}

func TestEncryptStepByStep(t *testing.T) {
	sub := subByWords(t)
	r := rand.New(rand.NewSource(72))
	for _, key := range manyKeys(73, 40) {
		c, w := block.New(key), keysByWords(key, sub)
		for _, b := range manyBlocks(r, 10) {
			want := encryptByWords(w, sub, b)
			if got := c.Encrypt(b); got != want {
				t.Errorf("Encrypt of %x under %x: %x, not %x", b, key, got, want)
			}
			if got := c.Decrypt(want); got != b {
				t.Errorf("Decrypt of %x under %x: %x, not %x", want, key, got, b)
			}
		}
	}
}

func TestEncryptAsTheLibrary(t *testing.T) {
	r := rand.New(rand.NewSource(74))
	for _, key := range manyKeys(75, 300) {
		c := block.New(key)
		for _, b := range manyBlocks(r, 20) {
			checkBlock(t, c, key, b)
		}
	}
}

// Each bit of the block and of the key, alone and alone missing: each has its own place and weight.
func TestEncryptOfEveryBit(t *testing.T) {
	for i := range 128 {
		for _, fill := range []byte{0, 0xff} {
			b := evenBlock(fill)
			b[i/8] ^= 1 << (i % 8)
			checkBlock(t, block.New(counted()), counted(), b)
		}
	}
	for i := range 256 {
		for _, fill := range []byte{0, 0xff} {
			key := evenKey(fill)
			key[i/8] ^= 1 << (i % 8)
			checkBlock(t, block.New(key), key, evenBlock(0x5a))
		}
	}
}

// What comes out goes in again: faults that few inputs show come up in a long row.
func TestEncryptInARow(t *testing.T) {
	key := counted()
	c := block.New(key)
	b := evenBlock(0)
	for i := range 20000 {
		want := library(t, key, b)
		got := c.Encrypt(b)
		if got != want {
			t.Fatalf("block %d of the row: %x, not %x", i, got, want)
		}
		b = got
	}
	for range 20000 {
		b = c.Decrypt(b)
	}
	if b != evenBlock(0) {
		t.Errorf("the row backwards ends with %x", b)
	}
}

// P5.6

func TestEncryptAndDecryptTurnEachOtherBack(t *testing.T) {
	r := rand.New(rand.NewSource(76))
	for _, key := range manyKeys(77, 200) {
		c := block.New(key)
		for _, b := range manyBlocks(r, 20) {
			if got := c.Decrypt(c.Encrypt(b)); got != b {
				t.Errorf("Decrypt(Encrypt(%x)) under %x: %x", b, key, got)
			}
			if got := c.Encrypt(c.Decrypt(b)); got != b {
				t.Errorf("Encrypt(Decrypt(%x)) under %x: %x", b, key, got)
			}
		}
	}
}

func TestCiphersKnowNothingOfOneAnother(t *testing.T) {
	r := rand.New(rand.NewSource(78))
	keys := []api.Key{drawnKey(r), drawnKey(r)}
	ciphers := []*block.Cipher{block.New(keys[0]), block.New(keys[1])}
	for range 300 {
		i := r.Intn(2)
		checkBlock(t, ciphers[i], keys[i], drawnBlock(r))
		block.New(drawnKey(r)).Encrypt(drawnBlock(r))
	}
	again := block.New(keys[0])
	b := drawnBlock(r)
	if ciphers[0].Encrypt(b) != again.Encrypt(b) || ciphers[0].Decrypt(b) != again.Decrypt(b) {
		t.Error("two ciphers under one key, of which one has worked, differ")
	}
}

func TestCipherLeavesItsArguments(t *testing.T) {
	key, b := counted(), evenBlock(0x3c)
	c := block.New(key)
	key = evenKey(0)
	checkBlock(t, c, counted(), b)
	if key != evenKey(0) || b != evenBlock(0x3c) {
		t.Errorf("now %x and %x", key, b)
	}
}

// What a Cipher that New did not make answers is open, but it does answer.
func TestZeroCipherEnds(t *testing.T) {
	var c block.Cipher
	c.Encrypt(counted16())
	c.Decrypt(counted16())
}

// checkBlock holds a cipher under a key against the library's, both ways.
func checkBlock(t *testing.T, c *block.Cipher, key api.Key, b block.Block) {
	t.Helper()
	want := library(t, key, b)
	if got := c.Encrypt(b); got != want {
		t.Errorf("Encrypt of %x under %x: %x, not %x", b, key, got, want)
	}
	if got := c.Decrypt(want); got != b {
		t.Errorf("Decrypt of %x under %x: %x, not %x", want, key, got, b)
	}
}

// manyKeys is those of zeros, of ones, the counted one, and n drawn ones.
func manyKeys(seed int64, n int) []api.Key {
	r := rand.New(rand.NewSource(seed))
	keys := []api.Key{evenKey(0), evenKey(1), evenKey(0xff), counted()}
	for range n {
		keys = append(keys, drawnKey(r))
	}
	return keys
}

// manyBlocks is those of zeros, of ones, the counted one, and n drawn ones.
func manyBlocks(r *rand.Rand, n int) []block.Block {
	list := []block.Block{evenBlock(0), evenBlock(1), evenBlock(0xff), counted16()}
	for range n {
		list = append(list, drawnBlock(r))
	}
	return list
}

// counted16 is the block 00 01 .. 0f.
func counted16() block.Block {
	k := counted()
	return block.Block(k[:16])
}

// joined is the keys of the rounds, one behind the other.
func joined(keys [15]block.Block) []byte {
	var all []byte
	for _, k := range keys {
		all = append(all, k[:]...)
	}
	return all
}
