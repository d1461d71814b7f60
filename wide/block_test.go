package wide_test

import (
	"math/rand"
	"testing"

	"pawl/wide"
)

// P18.1

func TestBlockOfPaddedExamples(t *testing.T) {
	for _, c := range []struct {
		b    string
		want [8]uint64
	}{
		{"", [8]uint64{0xcf83e1357eefb8bd, 0xf1542850d66d8007, 0xd620e4050b5715dc, 0x83f4a921d36ce9ce, 0x47d0d13c5d85f2b0, 0xff8318d2877eec2f, 0x63b931bd47417a81, 0xa538327af927da3e}},
		{"abc", [8]uint64{0xddaf35a193617aba, 0xcc417349ae204131, 0x12e6fa4e89a97ea2, 0x0a9eeee64b55d39a, 0x2192992a274fc1a8, 0x36ba3c23a3feebbd, 0x454d4423643ce80e, 0x2a9ac94fa54ca49f}},
	} {
		b := [128]byte(append([]byte(c.b), pad(uint64(len(c.b)))...))
		if got := wide.Block(start, b); got != c.want {
			t.Errorf("Block of %q, padded: %016x", c.b, got)
		}
	}
}

func TestBlockOfOrdinaryWords(t *testing.T) {
	r := rand.New(rand.NewSource(181))
	for range 2000 {
		checkBlock(t, drawnWords(r), drawnBlock(r))
	}
}

func TestBlockOfExtremeWords(t *testing.T) {
	r := rand.New(rand.NewSource(182))
	words := [][8]uint64{start, evenWords(0), evenWords(1), evenWords(1<<31 - 1), evenWords(1 << 31), evenWords(1<<32 - 1), evenWords(1 << 32), evenWords(1<<63 - 1), evenWords(1 << 63), evenWords(1<<64 - 1), drawnWords(r)}
	blocks := [][128]byte{evenBlock(0), evenBlock(1), evenBlock(0x7f), evenBlock(0x80), evenBlock(0xff), drawnBlock(r)}
	for _, h := range words {
		for _, b := range blocks {
			checkBlock(t, h, b)
		}
	}
}

// Each bit of the words and of the bytes, alone and alone missing: each has its own place and weight.
func TestBlockOfEveryBit(t *testing.T) {
	for i := range 1024 {
		one, all := evenBlock(0), evenBlock(0xff)
		one[i/8] ^= 1 << (i % 8)
		all[i/8] ^= 1 << (i % 8)
		checkBlock(t, start, one)
		checkBlock(t, start, all)
	}
	for i := range 512 {
		one, all := evenWords(0), evenWords(1<<64-1)
		one[i/64] ^= 1 << (i % 64)
		all[i/64] ^= 1 << (i % 64)
		checkBlock(t, one, evenBlock(0x36))
		checkBlock(t, all, evenBlock(0x36))
	}
}

// What comes out goes in again: faults that few inputs show come up in a long row.
func TestBlockInARow(t *testing.T) {
	h, want := start, start
	b := evenBlock(0x61)
	for i := range 20000 {
		h, want = wide.Block(h, b), libraryBlock(t, want, b)
		if h != want {
			t.Fatalf("block %d of the row: %016x, not %016x", i, h, want)
		}
		b[i%128] ^= byte(h[i%8])
	}
}

// The chapter's rule done a second way: all words in lists, nothing shortened, the constants from the roots themselves.
func TestBlockByTheChapter(t *testing.T) {
	r := rand.New(rand.NewSource(183))
	k := roots(80, 3)
	for range 300 {
		h, b := drawnWords(r), drawnBlock(r)
		if got, want := wide.Block(h, b), chapterBlock(k, h, b); got != want {
			t.Errorf("Block(%016x, %x): %016x, not %016x", h, b, got, want)
		}
	}
}

func TestBlockLeavesItsArguments(t *testing.T) {
	r := rand.New(rand.NewSource(184))
	h, b := drawnWords(r), drawnBlock(r)
	wasH, wasB := h, b
	first := wide.Block(h, b)
	if h != wasH || b != wasB {
		t.Errorf("now %016x, %x", h, b)
	}
	wide.Block(drawnWords(r), drawnBlock(r))
	if got := wide.Block(h, b); got != first {
		t.Errorf("first %016x, then %016x", first, got)
	}
}

// checkBlock holds Block against the library's.
func checkBlock(t *testing.T, h [8]uint64, b [128]byte) {
	t.Helper()
	if got, want := wide.Block(h, b), libraryBlock(t, h, b); got != want {
		t.Errorf("Block(%016x, %x): %016x, not %016x", h, b, got, want)
	}
}

// chapterBlock is P18.1, word by word.
func chapterBlock(k []uint64, h [8]uint64, b [128]byte) [8]uint64 {
	turn := func(x uint64, n int) uint64 { return x>>n | x<<(64-n) }
	var w []uint64
	for t := range 80 {
		if t < 16 {
			var x uint64
			for i := range 8 {
				x += uint64(b[8*t+i]) << (8 * (7 - i))
			}
			w = append(w, x)
			continue
		}
		x, y := w[t-15], w[t-2]
		w = append(w, (turn(y, 19)^turn(y, 61)^y>>6)+w[t-7]+(turn(x, 1)^turn(x, 8)^x>>7)+w[t-16])
	}
	v := h
	for t := range 80 {
		a, e := v[0], v[4]
		t1 := v[7] + (turn(e, 14) ^ turn(e, 18) ^ turn(e, 41)) + ((e & v[5]) ^ (^e & v[6])) + k[t] + w[t]
		t2 := (turn(a, 28) ^ turn(a, 34) ^ turn(a, 39)) + ((a & v[1]) ^ (a & v[2]) ^ (v[1] & v[2]))
		v = [8]uint64{t1 + t2, v[0], v[1], v[2], v[3] + t1, v[4], v[5], v[6]}
	}
	for i := range v {
		v[i] += h[i]
	}
	return v
}
