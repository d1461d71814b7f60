package block_test

import (
	"crypto/aes"
	"encoding/hex"
	"math/big"
	"math/rand"
	"strings"
	"testing"

	"pawl/api"
	"pawl/block"
)

// What the chapter says, done as it is said and by nothing of the package; and what several tests draw and hold against each other.

// timesByWords is the product of the polynomials, term by term, and then modulo x^8 + x^4 + x^3 + x + 1.
func timesByWords(a, b byte) byte {
	var terms [15]bool
	for i := range 8 {
		for j := range 8 {
			if a>>i&1 == 1 && b>>j&1 == 1 {
				terms[i+j] = !terms[i+j]
			}
		}
	}
	for k := 14; k >= 8; k-- {
		if terms[k] {
			for _, i := range []int{0, 1, 3, 4, 8} {
				terms[k-8+i] = !terms[k-8+i]
			}
		}
	}
	var out byte
	for i := range 8 {
		if terms[i] {
			out |= 1 << i
		}
	}
	return out
}

// inverseByWords looks for it.
func inverseByWords(t *testing.T, x byte) byte {
	t.Helper()
	var found []byte
	for b := range 256 {
		if timesByWords(x, byte(b)) == 1 {
			found = append(found, byte(b))
		}
	}
	if x == 0 && len(found) == 0 {
		return 0
	}
	if len(found) != 1 {
		t.Fatalf("the inverses of %02x: %x", x, found)
	}
	return found[0]
}

// subByWords is Sub of every byte, bit by bit.
func subByWords(t *testing.T) [256]byte {
	t.Helper()
	var out [256]byte
	for x := range out {
		y := inverseByWords(t, byte(x))
		for i := range 8 {
			bit := byte(0x63) >> i & 1
			for _, n := range []int{0, 4, 5, 6, 7} {
				bit ^= y >> ((i + n) % 8) & 1
			}
			out[x] |= bit << i
		}
	}
	return out
}

// keysByWords is the columns w(0) to w(59), by a table of Sub.
func keysByWords(key api.Key, sub [256]byte) [60][4]byte {
	var w [60][4]byte
	for i := range 32 {
		w[i/4][i%4] = key[i]
	}
	for i := 8; i < 60; i++ {
		t := w[i-1]
		switch {
		case i%8 == 0:
			t = [4]byte{sub[t[1]], sub[t[2]], sub[t[3]], sub[t[0]]}
			c := byte(1)
			for j := 1; j < i/8; j++ {
				c = timesByWords(2, c)
			}
			t[0] ^= c
		case i%4 == 0:
			t = [4]byte{sub[t[0]], sub[t[1]], sub[t[2]], sub[t[3]]}
		}
		for j := range 4 {
			w[i][j] = w[i-8][j] ^ t[j]
		}
	}
	return w
}

// encryptByWords is the chapter's steps, one by one.
func encryptByWords(w [60][4]byte, sub [256]byte, b block.Block) block.Block {
	addKey := func(r int) {
		for i := range b {
			b[i] ^= w[4*r+i/4][i%4]
		}
	}
	subShift := func() {
		was := b
		for r := range 4 {
			for c := range 4 {
				b[r+4*c] = sub[was[r+4*((c+r)%4)]]
			}
		}
	}
	mix := func() {
		two, three := func(x byte) byte { return timesByWords(2, x) }, func(x byte) byte { return timesByWords(3, x) }
		for i := 0; i < 16; i += 4 {
			a, b1, c, d := b[i], b[i+1], b[i+2], b[i+3]
			b[i] = two(a) ^ three(b1) ^ c ^ d
			b[i+1] = a ^ two(b1) ^ three(c) ^ d
			b[i+2] = a ^ b1 ^ two(c) ^ three(d)
			b[i+3] = three(a) ^ b1 ^ c ^ two(d)
		}
	}
	addKey(0)
	for r := 1; r <= 13; r++ {
		subShift()
		mix()
		addKey(r)
	}
	subShift()
	addKey(14)
	return b
}

// library is a block encrypted by Go's own library.
func library(t *testing.T, key api.Key, b block.Block) block.Block {
	t.Helper()
	c, err := aes.NewCipher(key[:])
	if err != nil {
		t.Fatal(err)
	}
	var out block.Block
	c.Encrypt(out[:], b[:])
	return out
}

// streamByWords is n bytes of the stream from the byte number at on, each found by its own number, by Go's own library.
func streamByWords(t *testing.T, key api.Key, nonce api.Nonce, at uint64, n int) []byte {
	t.Helper()
	out := make([]byte, n)
	place := new(big.Int).SetUint64(at)
	var before *big.Int
	var now block.Block
	for i := range out {
		number, in := new(big.Int).DivMod(place, big.NewInt(16), new(big.Int))
		if before == nil || before.Cmp(number) != 0 {
			now, before = library(t, key, block.Block(greater(nonce, number))), number
		}
		out[i] = now[in.Int64()]
		place.Add(place, big.NewInt(1))
	}
	return out
}

// greater is a nonce that is greater by k, modulo 2^128.
func greater(nonce api.Nonce, k *big.Int) api.Nonce {
	sum := new(big.Int).Add(new(big.Int).SetBytes(nonce[:]), k)
	sum.Mod(sum, new(big.Int).Lsh(big.NewInt(1), 128))
	var out api.Nonce
	sum.FillBytes(out[:])
	return out
}

// xored is two lists of one length, byte by byte.
func xored(a, b []byte) []byte {
	out := make([]byte, len(a))
	for i := range a {
		out[i] = a[i] ^ b[i]
	}
	return out
}

func drawn(r *rand.Rand, n int) []byte {
	b := make([]byte, n)
	r.Read(b)
	return b
}

func drawnKey(r *rand.Rand) api.Key       { return api.Key(drawn(r, api.KeySize)) }
func drawnNonce(r *rand.Rand) api.Nonce   { return api.Nonce(drawn(r, api.NonceSize)) }
func drawnBlock(r *rand.Rand) block.Block { return block.Block(drawn(r, api.BlockSize)) }

// counted is the key 00 01 .. 1f.
func counted() api.Key {
	var k api.Key
	for i := range k {
		k[i] = byte(i)
	}
	return k
}

// evenKey, evenNonce and evenBlock have one byte throughout.
func evenKey(x byte) api.Key {
	var k api.Key
	for i := range k {
		k[i] = x
	}
	return k
}

func evenNonce(x byte) api.Nonce {
	var n api.Nonce
	for i := range n {
		n[i] = x
	}
	return n
}

func evenBlock(x byte) block.Block { return block.Block(evenNonce(x)) }

// read is bytes told in hexadecimal, blanks aside.
func read(t *testing.T, s string) []byte {
	t.Helper()
	b, err := hex.DecodeString(strings.ReplaceAll(s, " ", ""))
	if err != nil {
		t.Fatal(err)
	}
	return b
}
