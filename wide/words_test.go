package wide

import (
	"bytes"
	"encoding/binary"
	"math/big"
	"slices"
	"testing"

	"pawl/api"
)

// The words of 18.1, from the roots of the primes themselves: x is the first 64 bits behind a root's point, if the whole number ahead of the point, put ahead of x, is the greatest whose power is not above the prime's.

func TestConstants(t *testing.T) {
	k := constants()
	for i, p := range primes(80) {
		if !behindPoint(k[i], p, 3) {
			t.Errorf("K(%d): %016x is not of the cube root of %d", i, k[i], p)
		}
	}
	if k[0] != 0x428a2f98d728ae22 || k[1] != 0x7137449123ef65cd || k[79] != 0x6c44198c4a475817 {
		t.Errorf("constants: %016x", k)
	}
}

func TestStart(t *testing.T) {
	s := start()
	for i, p := range primes(8) {
		if !behindPoint(s[i], p, 2) {
			t.Errorf("start %d: %016x is not of the square root of %d", i, s[i], p)
		}
	}
	if s[0] != 0x6a09e667f3bcc908 || s[7] != 0x5be0cd19137e2179 {
		t.Errorf("start: %016x", s)
	}
}

// primes is the first n primes.
func primes(n int) []int64 {
	var ps []int64
	for p := int64(2); len(ps) < n; p++ {
		if !slices.ContainsFunc(ps, func(q int64) bool { return p%q == 0 }) {
			ps = append(ps, p)
		}
	}
	return ps
}

// behindPoint tells whether x is the first 64 bits behind the point of p's root.
func behindPoint(x uint64, p int64, power int64) bool {
	ahead := int64(0)
	for above(big.NewInt(ahead+1), p, power) <= 0 {
		ahead++
	}
	root := new(big.Int).Lsh(big.NewInt(ahead), 64)
	root.Add(root, new(big.Int).SetUint64(x))
	goal := new(big.Int).Lsh(big.NewInt(p), uint(64*power))
	next := new(big.Int).Add(root, big.NewInt(1))
	return new(big.Int).Exp(root, big.NewInt(power), nil).Cmp(goal) <= 0 && new(big.Int).Exp(next, big.NewInt(power), nil).Cmp(goal) > 0
}

func above(x *big.Int, p int64, power int64) int {
	return new(big.Int).Exp(x, big.NewInt(power), nil).Cmp(big.NewInt(p))
}

// P18.2, P18.4: the number of bits may have 67. Nobody writes so many bytes, and the library's hash counts but 64 bits; so a Hash that stands there is made from within, and its padding is done by hand.
func TestSumOfVeryMany(t *testing.T) {
	end := bytes.Repeat([]byte("behind very many bytes stand these, more than a block. "), 5)
	for _, size := range []uint64{0, 128, 1<<29 - 128, 1 << 29, 1<<32 - 128, 1 << 32, 1 << 53, 1<<61 - 256, 1<<61 - 128, 1 << 61, 1<<61 + 128, 1 << 62, 1 << 63, 1<<64 - 512} {
		h := New()
		h.size = size
		for i := range end {
			if got, want := h.Sum(), sumBehind(size, end[:i]); got != want {
				t.Fatalf("of %d bytes and %d: %x, not %x", size, i, got, want)
			}
			h.Write(end[i : i+1])
			if h.Size() != size+uint64(i)+1 {
				t.Fatalf("Size of %d bytes and %d: %d", size, i+1, h.Size())
			}
		}
	}
}

// sumBehind is the hash of b, counted as if size bytes (whole blocks that changed no word) stood ahead of it.
func sumBehind(size uint64, b []byte) api.Wide {
	count := new(big.Int).Add(new(big.Int).SetUint64(size), big.NewInt(int64(len(b))))
	count.Lsh(count, 3)
	all := append(slices.Clone(b), 0x80)
	for len(all)%128 != 112 {
		all = append(all, 0)
	}
	all = append(all, count.FillBytes(make([]byte, 16))...)
	h := start()
	for block := range slices.Chunk(all, 128) {
		h = Block(h, [128]byte(block))
	}
	var out []byte
	for _, w := range h {
		out = binary.BigEndian.AppendUint64(out, w)
	}
	return api.Wide(out)
}

// Bytes that a block has taken up are not kept.
func TestNothingIsKept(t *testing.T) {
	secret := bytes.Repeat([]byte{0xa5}, 400)
	h := New()
	for n := range secret {
		h.Write(secret[n : n+1])
		for i, x := range h.part {
			if lies := i < (n+1)%128; lies != (x == 0xa5) {
				t.Fatalf("after %d bytes the part is %x", n+1, h.part)
			}
		}
	}
	h.Reset()
	if *h != *New() {
		t.Errorf("after Reset: %x", *h)
	}
}
