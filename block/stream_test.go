package block_test

import (
	"bytes"
	"crypto/aes"
	"crypto/cipher"
	"math/big"
	"math/rand"
	"slices"
	"testing"

	"pawl/api"
	"pawl/block"
)

// counts is how many bytes: none, around one block, and several blocks.
var counts = []int{0, 1, 2, 15, 16, 17, 31, 32, 33, 47, 48, 49, 100, 1000}

// places is where Crypt begins: at and around blocks' ends, where a number of 32 or 53 bits ends, and at the end of the numbers.
func places() []uint64 {
	list := []uint64{0, 1, 2, 15, 16, 17, 31, 32, 33, 4095, 4096, 4097, 1 << 31, 1<<32 - 1, 1 << 32, 1<<36 - 1, 1 << 36, 1 << 53, 1 << 60, 1 << 63}
	for n := range uint64(50) {
		list = append(list, 1<<64-1-n)
	}
	return list
}

// nonces is some whose counter runs over, within its lower bytes or at its end, and one that was drawn.
func nonces(t *testing.T, r *rand.Rand) []api.Nonce {
	list := []api.Nonce{evenNonce(0), evenNonce(0xff), drawnNonce(r)}
	for _, s := range []string{
		"000102030405060708090a0b0c0d0eff",
		"fffffffffffffffffffffffffffffffe",
		"fffffffffffffffffffffffffffffffd",
		"0000000000000000ffffffffffffffff",
		"00ffffffffffffffffffffffffffffff",
		"000000000000000000000000fffffffe",
		"00112233445566770fffffffffffffff",
		"ffffffffffffffffefffffffffffffff",
		"fffffffffffffffff000000000000000",
		"fffffffffffffffff000000000000001",
	} {
		list = append(list, api.Nonce(read(t, s)))
	}
	return list
}

// P5.5

func TestCryptExample(t *testing.T) {
	key, nonce := counted(), evenNonce(0xff)
	zero, first := block.New(key).Encrypt(evenBlock(0)), block.New(key).Encrypt(evenBlock(0xff))
	r := rand.New(rand.NewSource(80))
	b := drawn(r, 16)
	if got := block.Crypt(key, nonce, 16, b); !bytes.Equal(got, xored(b, zero[:])) {
		t.Errorf("at 16: %x", got)
	}
	if got := block.Crypt(key, nonce, 0, make([]byte, 32)); !bytes.Equal(got, slices.Concat(first[:], zero[:])) {
		t.Errorf("at 0: %x", got)
	}
}

func TestCryptPublished(t *testing.T) {
	key := api.Key(read(t, "603deb1015ca71be2b73aef0857d77811f352c073b6108d72d9810a30914dff4"))
	nonce := api.Nonce(read(t, "f0f1f2f3f4f5f6f7f8f9fafbfcfdfeff"))
	plain := read(t, "6bc1bee22e409f96e93d7e117393172a ae2d8a571e03ac9c9eb76fac45af8e51 30c81c46a35ce411e5fbc1191a0a52ef f69f2445df4f9b17ad2b417be66c3710")
	want := read(t, "601ec313775789a5b7a7f504bbf3d228 f443e3ca4d62b59aca84e990cacaf5c5 2b0930daa23de94ce87017ba2d84988d dfc9c58db67aada613c2dd08457941a6")
	if got := block.Crypt(key, nonce, 0, plain); !bytes.Equal(got, want) {
		t.Errorf("%x, not %x", got, want)
	}
	if got := block.Crypt(key, nonce, 0, want); !bytes.Equal(got, plain) {
		t.Errorf("back: %x, not %x", got, plain)
	}
}

func TestCryptOfNoBytes(t *testing.T) {
	for _, at := range places() {
		for _, b := range [][]byte{nil, {}, make([]byte, 0, 40)} {
			if got := block.Crypt(counted(), evenNonce(0xff), at, b); len(got) != 0 {
				t.Errorf("of no bytes at %d: %x", at, got)
			}
		}
	}
}

func TestCryptByteByByteOfTheStream(t *testing.T) {
	r := rand.New(rand.NewSource(81))
	for _, nonce := range nonces(t, r) {
		for _, at := range places() {
			key := drawnKey(r)
			stream := streamByWords(t, key, nonce, at, 100)
			for _, n := range []int{1, 15, 16, 17, 33, 100} {
				b := drawn(r, n)
				if got, want := block.Crypt(key, nonce, at, b), xored(b, stream[:n]); !bytes.Equal(got, want) {
					t.Errorf("of %d bytes at %d under %x and %x: %x, not %x", n, at, key, nonce, got, want)
				}
			}
		}
	}
}

func TestCryptOfEvenKeysAndBytes(t *testing.T) {
	for _, fill := range []byte{0, 0xff} {
		for _, at := range []uint64{0, 17, 1<<64 - 1, 1<<64 - 17} {
			b := bytes.Repeat([]byte{fill}, 40)
			want := xored(b, streamByWords(t, evenKey(fill), evenNonce(fill), at, 40))
			if got := block.Crypt(evenKey(fill), evenNonce(fill), at, b); !bytes.Equal(got, want) {
				t.Errorf("all %02x at %d: %x, not %x", fill, at, got, want)
			}
		}
	}
}

func TestCryptOfManyBytesAsTheLibrary(t *testing.T) {
	r := rand.New(rand.NewSource(82))
	for _, nonce := range nonces(t, r) {
		key := drawnKey(r)
		c, err := aes.NewCipher(key[:])
		if err != nil {
			t.Fatal(err)
		}
		b := drawn(r, 20000)
		want := make([]byte, len(b))
		cipher.NewCTR(c, nonce[:]).XORKeyStream(want, b)
		if got := block.Crypt(key, nonce, 0, b); !bytes.Equal(got, want) {
			t.Errorf("of %d bytes under %x and %x: other bytes than the library's", len(b), key, nonce)
		}
	}
}

// Behind the byte number 2^64 - 1 comes number 2^64, of the block 2^60: not the stream's beginning.
func TestCryptOverTheEndOfTheNumbers(t *testing.T) {
	r := rand.New(rand.NewSource(83))
	key, nonce := drawnKey(r), drawnNonce(r)
	behind := block.New(key).Encrypt(block.Block(greater(nonce, new(big.Int).Lsh(big.NewInt(1), 60))))
	ahead := block.New(key).Encrypt(block.Block(greater(nonce, big.NewInt(1<<60-1))))
	whole := slices.Concat(ahead[:], behind[:])
	for n := range uint64(16) {
		got := block.Crypt(key, nonce, 1<<64-1-n, make([]byte, 17+n))
		if want := whole[15-n:]; !bytes.Equal(got, want) {
			t.Errorf("at 2^64 - %d: %x, not %x", n+1, got, want)
		}
	}
}

func TestCryptLeavesItsArguments(t *testing.T) {
	r := rand.New(rand.NewSource(84))
	for _, n := range counts {
		for _, at := range []uint64{0, 1, 16, 1<<64 - 1} {
			room := drawn(r, n+60)
			before := slices.Clone(room)
			key, nonce := drawnKey(r), drawnNonce(r)
			wasKey, wasNonce := key, nonce
			got := block.Crypt(key, nonce, at, room[:n])
			if !bytes.Equal(room, before) || key != wasKey || nonce != wasNonce {
				t.Errorf("of %d bytes at %d: something that was handed in has changed", n, at)
			}
			want := slices.Clone(got)
			clear(room)
			if !bytes.Equal(got, want) {
				t.Errorf("of %d bytes at %d: the answer changes with what was handed in", n, at)
			}
			fill(got[:cap(got)])
			if !bytes.Equal(room, make([]byte, len(room))) {
				t.Errorf("of %d bytes at %d: what was handed in changes with the answer", n, at)
			}
			other := block.Crypt(key, nonce, at, before[:n])
			if !bytes.Equal(other, want) {
				t.Errorf("of %d bytes at %d: asked again, %x, not %x", n, at, other, want)
			}
			fill(got[:cap(got)])
			if !bytes.Equal(other, want) {
				t.Errorf("of %d bytes at %d: one answer changes with another", n, at)
			}
		}
	}
}

// P5.8

func TestCryptOfCrypt(t *testing.T) {
	r := rand.New(rand.NewSource(85))
	for _, nonce := range nonces(t, r) {
		for _, at := range places() {
			key, b := drawnKey(r), drawn(r, counts[r.Intn(len(counts))])
			there := block.Crypt(key, nonce, at, b)
			if len(there) != len(b) {
				t.Errorf("of %d bytes at %d: %d", len(b), at, len(there))
			}
			if got := block.Crypt(key, nonce, at, there); !bytes.Equal(got, b) {
				t.Errorf("of %d bytes at %d, twice: %x, not %x", len(b), at, got, b)
			}
		}
	}
}

func TestCryptInTwoPieces(t *testing.T) {
	r := rand.New(rand.NewSource(86))
	for _, nonce := range nonces(t, r) {
		for _, at := range []uint64{0, 1, 15, 16, 17, 1<<32 - 20, 1<<64 - 60} {
			key, b := drawnKey(r), drawn(r, 59)
			want := block.Crypt(key, nonce, at, b)
			for i := range len(b) + 1 {
				got := slices.Concat(block.Crypt(key, nonce, at, b[:i]), block.Crypt(key, nonce, at+uint64(i), b[i:]))
				if !bytes.Equal(got, want) {
					t.Errorf("at %d, cut behind %d bytes: %x, not %x", at, i, got, want)
				}
			}
		}
	}
}

func TestCryptByteByByte(t *testing.T) {
	r := rand.New(rand.NewSource(87))
	for _, nonce := range nonces(t, r) {
		for _, at := range []uint64{0, 3, 1<<64 - 70} {
			key, b := drawnKey(r), drawn(r, 70)
			want := block.Crypt(key, nonce, at, b)
			for i := range b {
				if got := block.Crypt(key, nonce, at+uint64(i), b[i:i+1]); len(got) != 1 || got[0] != want[i] {
					t.Errorf("byte %d at %d alone: %x, not %02x", i, at, got, want[i])
				}
			}
		}
	}
}

// A byte that becomes another changes no other byte, and changes itself by as much.
func TestCryptOfEachByteAlone(t *testing.T) {
	r := rand.New(rand.NewSource(88))
	key, nonce := drawnKey(r), evenNonce(0xff)
	for _, at := range []uint64{0, 7, 1<<64 - 9} {
		b := drawn(r, 50)
		whole := block.Crypt(key, nonce, at, b)
		for i := range b {
			for _, d := range []byte{1, 0x80, 0xff} {
				other, want := slices.Clone(b), slices.Clone(whole)
				other[i] ^= d
				want[i] ^= d
				if got := block.Crypt(key, nonce, at, other); !bytes.Equal(got, want) {
					t.Errorf("at %d, byte %d ^ %02x: %x, not %x", at, i, d, got, want)
				}
			}
		}
	}
}

// P5.9

func TestCryptUnderAGreaterNonce(t *testing.T) {
	r := rand.New(rand.NewSource(89))
	for _, nonce := range nonces(t, r) {
		for _, k := range []uint64{0, 1, 2, 3, 255, 256, 257, 1<<16 - 1, 1 << 16, 1<<32 - 1, 1 << 32, 1<<56 - 1, 1<<60 - 2, 1<<60 - 1, r.Uint64() >> 4} {
			key, b := drawnKey(r), drawn(r, counts[r.Intn(len(counts))])
			got := block.Crypt(key, nonce, 16*k, b)
			want := block.Crypt(key, greater(nonce, new(big.Int).SetUint64(k)), 0, b)
			if !bytes.Equal(got, want) {
				t.Errorf("of %d bytes under %x from block %d on: %x, under the greater nonce %x", len(b), nonce, k, got, want)
			}
		}
	}
}

// From a nonce that is less by k than 0 the stream comes to that of 0 by k blocks.
func TestCryptOverTheEndOfTheCounter(t *testing.T) {
	r := rand.New(rand.NewSource(90))
	key, b := drawnKey(r), drawn(r, 100)
	want := block.Crypt(key, evenNonce(0), 0, b)
	for k := range int64(40) {
		nonce := greater(evenNonce(0), big.NewInt(-k))
		if got := block.Crypt(key, nonce, uint64(16*k), b); !bytes.Equal(got, want) {
			t.Errorf("under %x from block %d on: %x, not %x", nonce, k, got, want)
		}
		long := block.Crypt(key, nonce, 0, slices.Concat(make([]byte, 16*k), b))
		if !bytes.Equal(long[16*k:], want) {
			t.Errorf("under %x, %d blocks and on: %x, not %x", nonce, k, long[16*k:], want)
		}
	}
}

// fill puts other bytes into a list.
func fill(b []byte) {
	for i := range b {
		b[i] ^= 0xee
	}
}
