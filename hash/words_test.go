package hash

import (
	"bytes"
	"crypto/sha256"
	"encoding"
	"encoding/binary"
	"math/big"
	"testing"

	"pawl/api"
)

// The words of 3.1, from the roots of the primes themselves.

func TestConstants(t *testing.T) {
	for i, p := range primes(64) {
		if want := behindPoint(p, 3); constants[i] != want {
			t.Errorf("K(%d): %08x, not %08x", i, constants[i], want)
		}
	}
	for i, want := range map[int]uint32{0: 0x428a2f98, 1: 0x71374491, 63: 0xc67178f2} {
		if constants[i] != want {
			t.Errorf("K(%d): %08x, not %08x", i, constants[i], want)
		}
	}
}

func TestStart(t *testing.T) {
	for i, p := range primes(8) {
		if want := behindPoint(p, 2); start[i] != want {
			t.Errorf("start %d: %08x, not %08x", i, start[i], want)
		}
	}
	if start[0] != 0x6a09e667 || start[7] != 0x5be0cd19 {
		t.Errorf("start: %08x", start)
	}
}

// primes is the first n primes.
func primes(n int) []int64 {
	var ps []int64
	for p := int64(2); len(ps) < n; p++ {
		if big.NewInt(p).ProbablyPrime(20) {
			ps = append(ps, p)
		}
	}
	return ps
}

// behindPoint is the first 32 bits behind the point of p's square root (power 2) or cube root (power 3), found bit by bit: the greatest x with x^power <= p 2^(32 power).
func behindPoint(p int64, power int64) uint32 {
	goal := new(big.Int).Lsh(big.NewInt(p), uint(32*power))
	x := new(big.Int)
	for i := 40; i >= 0; i-- {
		x.SetBit(x, i, 1)
		if new(big.Int).Exp(x, big.NewInt(power), nil).Cmp(goal) > 0 {
			x.SetBit(x, i, 0)
		}
	}
	return uint32(x.Uint64())
}

// P3.2, P3.4: the number of bits goes round at 2^64. Nobody writes so many bytes; a Hash that stands there is made from within, and the library's beside it.
func TestSumOfVeryMany(t *testing.T) {
	end := []byte("behind very many bytes stand these, which are more than one block of sixty-four, so that one is mixed in")
	for _, size := range []uint64{0, 64, 1<<29 - 64, 1 << 29, 1<<32 - 64, 1 << 32, 1 << 53, 1<<61 - 64, 1 << 61, 1<<61 + 64, 1 << 63, 1<<64 - 128, 1<<64 - 64} {
		h := New()
		h.size = size
		for i := range end {
			if got, want := h.Sum(), librarySum(t, start, size, end[:i]); got != want {
				t.Fatalf("of %d bytes and %d: %x, not %x", size, i, got, want)
			}
			h.Write(end[i : i+1])
			if h.Size() != size+uint64(i)+1 {
				t.Fatalf("Size of %d bytes and %d: %d", size, i+1, h.Size())
			}
		}
	}
}

// Bytes that a block has taken up are not kept.
func TestNothingIsKept(t *testing.T) {
	secret := bytes.Repeat([]byte{0xa5}, 200)
	h := New()
	for n := range secret {
		h.Write(secret[n : n+1])
		for i, x := range h.part {
			if lies := i < (n+1)%64; lies != (x == 0xa5) {
				t.Fatalf("after %d bytes the part is %x", n+1, h.part)
			}
		}
	}
	h.Reset()
	if *h != *New() {
		t.Errorf("after Reset: %x", *h)
	}
}

// librarySum is what the library's hash gives, put to the words s as if size bytes (whole blocks) had come, and then written b.
func librarySum(t *testing.T, s [8]uint32, size uint64, b []byte) api.Key {
	t.Helper()
	state := []byte("sha\x03")
	for _, w := range s {
		state = binary.BigEndian.AppendUint32(state, w)
	}
	state = append(state, make([]byte, 64)...)
	state = binary.BigEndian.AppendUint64(state, size)
	d := sha256.New()
	if err := d.(encoding.BinaryUnmarshaler).UnmarshalBinary(state); err != nil {
		t.Fatal(err)
	}
	d.Write(b)
	return api.Key(d.Sum(nil))
}
