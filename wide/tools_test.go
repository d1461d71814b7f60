package wide_test

import (
	"bytes"
	"crypto/sha512"
	"encoding"
	"encoding/binary"
	"encoding/hex"
	"math/big"
	"math/rand"
	"slices"
	"testing"

	"pawl/api"
	"pawl/wide"
)

// start is the words ahead of the first block.
var start = [8]uint64(roots(8, 2))

// lengths is those at which something turns: around the room for the count, and around whole blocks.
var lengths = []int{0, 1, 2, 3, 63, 64, 65, 110, 111, 112, 113, 119, 120, 121, 126, 127, 128, 129, 130, 238, 239, 240, 241, 255, 256, 257, 367, 368, 383, 384, 385, 511, 512, 513, 1000, 4096, 10000}

// roots is, of the first n primes, the first 64 bits behind the point of the square roots (power 2) or the cube roots (power 3), found bit by bit: the greatest x with x^power <= p 2^(64 power).
func roots(n int, power int64) []uint64 {
	var all []uint64
	for p := int64(2); len(all) < n; p++ {
		if !big.NewInt(p).ProbablyPrime(20) {
			continue
		}
		goal := new(big.Int).Lsh(big.NewInt(p), uint(64*power))
		x := new(big.Int)
		for i := 72; i >= 0; i-- {
			x.SetBit(x, i, 1)
			if new(big.Int).Exp(x, big.NewInt(power), nil).Cmp(goal) > 0 {
				x.SetBit(x, i, 0)
			}
		}
		last := new(big.Int).And(x, new(big.Int).SetUint64(1<<64-1))
		all = append(all, last.Uint64())
	}
	return all
}

// The numbers that the chapter writes out.
func TestRoots(t *testing.T) {
	k := roots(80, 3)
	if k[0] != 0x428a2f98d728ae22 || k[1] != 0x7137449123ef65cd || k[79] != 0x6c44198c4a475817 {
		t.Errorf("constants: %016x", k)
	}
	if start[0] != 0x6a09e667f3bcc908 || start[7] != 0x5be0cd19137e2179 {
		t.Errorf("start: %016x", start)
	}
}

// libraryBlock is the words that the library's hash comes to from h by one block: its state is laid down and taken up as bytes.
func libraryBlock(t *testing.T, h [8]uint64, b [128]byte) [8]uint64 {
	t.Helper()
	state := []byte("sha\x07")
	for _, w := range h {
		state = binary.BigEndian.AppendUint64(state, w)
	}
	state = append(state, make([]byte, 128+8)...)
	d := sha512.New()
	if err := d.(encoding.BinaryUnmarshaler).UnmarshalBinary(state); err != nil {
		t.Fatal(err)
	}
	d.Write(b[:])
	state, err := d.(encoding.BinaryMarshaler).MarshalBinary()
	if err != nil {
		t.Fatal(err)
	}
	for i := range h {
		h[i] = binary.BigEndian.Uint64(state[4+8*i:])
	}
	return h
}

// through is what the blocks of b, one behind the other, make of the words h.
func through(h [8]uint64, b []byte) [8]uint64 {
	for block := range slices.Chunk(b, 128) {
		h = wide.Block(h, [128]byte(block))
	}
	return h
}

// joined is eight words as bytes, each highest first.
func joined(h [8]uint64) api.Wide {
	var b []byte
	for _, w := range h {
		b = binary.BigEndian.AppendUint64(b, w)
	}
	return api.Wide(b)
}

// pad is the padding as the chapter tells it, zero by zero, and 8n as a number that has no bound.
func pad(n uint64) []byte {
	p := []byte{0x80}
	for (n%128+uint64(len(p))+16)%128 != 0 {
		p = append(p, 0)
	}
	count := new(big.Int).Mul(big.NewInt(8), new(big.Int).SetUint64(n))
	return append(p, count.FillBytes(make([]byte, 16))...)
}

// numbers is numbers of bytes: small ones, those around powers of two, and drawn ones.
func numbers() []uint64 {
	var ns []uint64
	for n := range uint64(600) {
		ns = append(ns, n, -n)
	}
	for i := 10; i < 64; i++ {
		for d := range uint64(260) {
			ns = append(ns, 1<<i-130+d)
		}
	}
	r := rand.New(rand.NewSource(185))
	for range 1000 {
		n := r.Uint64()
		ns = append(ns, n, n>>3, n>>32)
	}
	return ns
}

func upTo(n int) []int {
	var all []int
	for i := range n {
		all = append(all, i)
	}
	return all
}

func drawn(r *rand.Rand, n int) []byte {
	b := make([]byte, n)
	r.Read(b)
	return b
}

func drawnWords(r *rand.Rand) (h [8]uint64) {
	for i := range h {
		h[i] = r.Uint64()
	}
	return h
}

func drawnBlock(r *rand.Rand) [128]byte { return [128]byte(drawn(r, 128)) }

func evenWords(w uint64) (h [8]uint64) {
	for i := range h {
		h[i] = w
	}
	return h
}

func evenBlock(x byte) [128]byte { return [128]byte(bytes.Repeat([]byte{x}, 128)) }

// read is a hash written in hexadecimal.
func read(t *testing.T, s string) api.Wide {
	t.Helper()
	b, err := hex.DecodeString(s)
	if err != nil || len(b) != 64 {
		t.Fatal(s, err)
	}
	return api.Wide(b)
}

func abc(t *testing.T) api.Wide {
	return read(t, "ddaf35a193617abacc417349ae20413112e6fa4e89a97ea20a9eeee64b55d39a2192992a274fc1a836ba3c23a3feebbd454d4423643ce80e2a9ac94fa54ca49f")
}

func noBytes(t *testing.T) api.Wide {
	return read(t, "cf83e1357eefb8bdf1542850d66d8007d620e4050b5715dc83f4a921d36ce9ce47d0d13c5d85f2b0ff8318d2877eec2f63b931bd47417a81a538327af927da3e")
}
