package hash_test

import (
	"bytes"
	"crypto/sha256"
	"encoding"
	"encoding/binary"
	"encoding/hex"
	"math/rand"
	"slices"
	"strings"
	"testing"

	"pawl/api"
	"pawl/hash"
)

// start is the words ahead of the first block, as the chapter tells them by their rule.
var start = [8]uint32{0x6a09e667, 0xbb67ae85, 0x3c6ef372, 0xa54ff53a, 0x510e527f, 0x9b05688c, 0x1f83d9ab, 0x5be0cd19}

// lengths is those at which something turns: around the room for the count, and around whole blocks.
var lengths = []int{0, 1, 2, 3, 31, 32, 33, 54, 55, 56, 57, 62, 63, 64, 65, 66, 118, 119, 120, 121, 127, 128, 129, 183, 184, 191, 192, 193, 255, 256, 257, 1000, 4096, 10000}

// P3.1

func TestBlockOfPaddedExamples(t *testing.T) {
	for _, c := range []struct {
		b    string
		want [8]uint32
	}{
		{"", [8]uint32{0xe3b0c442, 0x98fc1c14, 0x9afbf4c8, 0x996fb924, 0x27ae41e4, 0x649b934c, 0xa495991b, 0x7852b855}},
		{"abc", [8]uint32{0xba7816bf, 0x8f01cfea, 0x414140de, 0x5dae2223, 0xb00361a3, 0x96177a9c, 0xb410ff61, 0xf20015ad}},
	} {
		b := [64]byte(append([]byte(c.b), pad(uint64(len(c.b)))...))
		if got := hash.Block(start, b); got != c.want {
			t.Errorf("Block of %q, padded: %08x", c.b, got)
		}
	}
}

func TestBlockOfOrdinaryWords(t *testing.T) {
	r := rand.New(rand.NewSource(31))
	for range 2000 {
		checkBlock(t, drawnWords(r), drawnBlock(r))
	}
}

func TestBlockOfExtremeWords(t *testing.T) {
	r := rand.New(rand.NewSource(32))
	words := [][8]uint32{start, evenWords(0), evenWords(1), evenWords(1<<31 - 1), evenWords(1 << 31), evenWords(1<<32 - 1), drawnWords(r)}
	blocks := [][64]byte{evenBlock(0), evenBlock(1), evenBlock(0x7f), evenBlock(0x80), evenBlock(0xff), drawnBlock(r)}
	for _, h := range words {
		for _, b := range blocks {
			checkBlock(t, h, b)
		}
	}
}

// Each bit of the words and of the bytes, alone and alone missing: each has its own place and weight.
func TestBlockOfEveryBit(t *testing.T) {
	for i := range 512 {
		one, all := evenBlock(0), evenBlock(0xff)
		one[i/8] ^= 1 << (i % 8)
		all[i/8] ^= 1 << (i % 8)
		checkBlock(t, start, one)
		checkBlock(t, start, all)
	}
	for i := range 256 {
		one, all := evenWords(0), evenWords(1<<32-1)
		one[i/32] ^= 1 << (i % 32)
		all[i/32] ^= 1 << (i % 32)
		checkBlock(t, one, evenBlock(0x36))
		checkBlock(t, all, evenBlock(0x36))
	}
}

// What comes out goes in again: faults that few inputs show come up in a long row.
func TestBlockInARow(t *testing.T) {
	h, want := start, start
	b := evenBlock(0x61)
	for i := range 20000 {
		h, want = hash.Block(h, b), libraryBlock(t, want, b)
		if h != want {
			t.Fatalf("block %d of the row: %08x, not %08x", i, h, want)
		}
		b[i%64] ^= byte(h[i%8])
	}
}

func TestBlockLeavesItsArguments(t *testing.T) {
	r := rand.New(rand.NewSource(33))
	h, b := drawnWords(r), drawnBlock(r)
	wasH, wasB := h, b
	first := hash.Block(h, b)
	if h != wasH || b != wasB {
		t.Errorf("now %08x, %x", h, b)
	}
	hash.Block(drawnWords(r), drawnBlock(r))
	if got := hash.Block(h, b); got != first {
		t.Errorf("first %08x, then %08x", first, got)
	}
}

// P3.2

func TestPadExamples(t *testing.T) {
	for _, c := range []struct {
		n     uint64
		zeros int
		last  string
	}{
		{0, 55, "0000000000000000"},
		{3, 52, "0000000000000018"},
		{55, 0, "00000000000001b8"},
		{56, 63, "00000000000001c0"},
		{63, 56, "00000000000001f8"},
		{64, 55, "0000000000000200"},
		{1<<64 - 1, 56, "fffffffffffffff8"},
	} {
		want := "80" + strings.Repeat("00", c.zeros) + c.last
		if got := hex.EncodeToString(hash.Pad(c.n)); got != want {
			t.Errorf("Pad(%d): %s, not %s", c.n, got, want)
		}
	}
}

func TestPad(t *testing.T) {
	for _, n := range numbers() {
		if got, want := hash.Pad(n), pad(n); !bytes.Equal(got, want) {
			t.Errorf("Pad(%d): %x, not %x", n, got, want)
		}
	}
}

func TestPadIsNewMemory(t *testing.T) {
	for _, n := range []uint64{0, 3, 55, 56, 63, 64, 1<<64 - 1} {
		first := hash.Pad(n)
		second := hash.Pad(n)
		first = first[:cap(first)]
		for i := range first {
			first[i] = 0xee
		}
		if !bytes.Equal(second, pad(n)) || !bytes.Equal(hash.Pad(n), pad(n)) {
			t.Errorf("Pad(%d) changes with another answer of it", n)
		}
		if hash.Sum([]byte("abc")) != abc(t) {
			t.Errorf("Sum changes with an answer of Pad(%d)", n)
		}
	}
}

// P3.3

func TestSumExamples(t *testing.T) {
	for _, c := range []struct{ b, want string }{
		{"", "e3b0c442 98fc1c14 9afbf4c8 996fb924 27ae41e4 649b934c a495991b 7852b855"},
		{"abc", "ba7816bf 8f01cfea 414140de 5dae2223 b00361a3 96177a9c b410ff61 f20015ad"},
		{"abcdbcdecdefdefgefghfghighijhijkijkljklmklmnlmnomnopnopq", "248d6a61 d20638b8 e5c02693 0c3e6039 a33ce459 64ff2167 f6ecedd4 19db06c1"},
		{strings.Repeat("a", 1000000), "cdc76e5c 9914fb92 81a1c7e2 84d73e67 f1809a48 a497200e 046d39cc c7112cd0"},
	} {
		if got := hash.Sum([]byte(c.b)); got != read(t, c.want) {
			t.Errorf("Sum of %.60q: %x", c.b, got)
		}
	}
	if got, want := hash.Sum(nil), hash.Sum([]byte{}); got != want || got != noBytes(t) {
		t.Errorf("Sum of nil: %x, of an empty list: %x", got, want)
	}
}

func TestSumOfEachByte(t *testing.T) {
	for i := range 256 {
		b := []byte{byte(i)}
		if got := hash.Sum(b); got != sha256.Sum256(b) {
			t.Errorf("Sum(%x): %x", b, got)
		}
	}
}

func TestSumOfLengths(t *testing.T) {
	r := rand.New(rand.NewSource(34))
	for _, n := range append(upTo(400), lengths...) {
		for _, b := range [][]byte{drawn(r, n), make([]byte, n), bytes.Repeat([]byte{0xff}, n)} {
			if got := hash.Sum(b); got != sha256.Sum256(b) {
				t.Errorf("Sum of %d bytes %.8x..: %x", n, b, got)
			}
		}
	}
}

// The rule itself: blocks of b | Pad, one behind the other.
func TestSumByItsBlocks(t *testing.T) {
	r := rand.New(rand.NewSource(35))
	for _, n := range lengths {
		b := drawn(r, n)
		want := joined(through(start, append(slices.Clone(b), hash.Pad(uint64(n))...)))
		if got := hash.Sum(b); got != want {
			t.Errorf("Sum of %d bytes: %x, by its blocks %x", n, got, want)
		}
	}
}

func TestSumLeavesItsBytes(t *testing.T) {
	r := rand.New(rand.NewSource(36))
	for _, n := range lengths {
		room := drawn(r, n+200)
		before := slices.Clone(room)
		first := hash.Sum(room[:n])
		if !bytes.Equal(room, before) {
			t.Errorf("Sum of %d bytes changes them, or what lies behind", n)
		}
		// What lies in the room behind the bytes does not count.
		if got := hash.Sum(slices.Clip(slices.Clone(before[:n]))); got != first {
			t.Errorf("Sum of %d bytes in another place: %x, not %x", n, got, first)
		}
		clear(room)
		if got := hash.Sum(room[:n]); got != sha256.Sum256(make([]byte, n)) {
			t.Errorf("Sum of %d other bytes in the same place: %x", n, got)
		}
	}
}

// P3.4

func TestHashExample(t *testing.T) {
	h := hash.New()
	checkHash(t, h, nil)
	h.Write([]byte("a"))
	checkHash(t, h, []byte("a"))
	h.Write(nil)
	h.Write([]byte{})
	checkHash(t, h, []byte("a"))
	h.Write([]byte("bc"))
	checkHash(t, h, []byte("abc"))
	if h.Sum() != abc(t) {
		t.Errorf("of abc: %x", h.Sum())
	}
	h.Reset()
	checkHash(t, h, nil)
	if h.Sum() != noBytes(t) {
		t.Errorf("after Reset: %x", h.Sum())
	}
}

func TestResetAnywhere(t *testing.T) {
	r := rand.New(rand.NewSource(37))
	h := hash.New()
	for _, n := range lengths {
		h.Write(drawn(r, n))
		h.Reset()
		checkHash(t, h, nil)
		b := drawn(r, 100)
		h.Write(b)
		checkHash(t, h, b)
		h.Reset()
		h.Reset()
		checkHash(t, h, nil)
	}
}

func TestWriteDoesNotKeepItsBytes(t *testing.T) {
	r := rand.New(rand.NewSource(38))
	for _, n := range lengths {
		room := drawn(r, n+200)
		before := slices.Clone(room)
		h := hash.New()
		h.Write(room[:n])
		h.Sum()
		if !bytes.Equal(room, before) {
			t.Errorf("Write of %d bytes changes them, or what lies behind", n)
		}
		clear(room)
		checkHash(t, h, before[:n])
		h.Write(before[n:])
		if !bytes.Equal(room, make([]byte, n+200)) {
			t.Errorf("a later Write changes the %d bytes of an earlier one", n)
		}
		checkHash(t, h, before)
	}
}

func TestClone(t *testing.T) {
	r := rand.New(rand.NewSource(39))
	for _, n := range lengths {
		for _, more := range []int{0, 1, 8, 63, 64, 65, 200} {
			b, x, y := drawn(r, n), drawn(r, more), drawn(r, more+3)
			h := hash.New()
			h.Write(b)
			c := h.Clone()
			checkHash(t, c, b)
			h.Write(x)
			checkHash(t, c, b)
			c.Write(y)
			checkHash(t, h, slices.Concat(b, x))
			checkHash(t, c, slices.Concat(b, y))
			d := c.Clone()
			c.Reset()
			checkHash(t, h, slices.Concat(b, x))
			checkHash(t, d, slices.Concat(b, y))
			checkHash(t, c, nil)
			h.Write(y)
			checkHash(t, d, slices.Concat(b, y))
			checkHash(t, h, slices.Concat(b, x, y))
		}
	}
}

func TestHashesKnowNothingOfOneAnother(t *testing.T) {
	a, b := hash.New(), hash.New()
	a.Write([]byte("one"))
	checkHash(t, b, nil)
	b.Write([]byte("another"))
	checkHash(t, a, []byte("one"))
	a.Reset()
	checkHash(t, b, []byte("another"))
	a.Write(bytes.Repeat([]byte("many"), 100))
	checkHash(t, b, []byte("another"))
	checkHash(t, hash.New(), nil)
}

// P3.5

func TestEveryCutInTwo(t *testing.T) {
	r := rand.New(rand.NewSource(40))
	for _, n := range []int{0, 1, 55, 56, 63, 64, 65, 127, 128, 129, 300} {
		b := drawn(r, n)
		for i := range n + 1 {
			h := hash.New()
			h.Write(b[:i])
			h.Write(b[i:])
			checkHash(t, h, b)
		}
	}
}

func TestEvenPieces(t *testing.T) {
	r := rand.New(rand.NewSource(41))
	b := drawn(r, 700)
	for size := 1; size <= 200; size++ {
		h := hash.New()
		for piece := range slices.Chunk(b, size) {
			h.Write(piece)
		}
		checkHash(t, h, b)
	}
}

func TestDrawnPieces(t *testing.T) {
	r := rand.New(rand.NewSource(42))
	for range 300 {
		h := hash.New()
		var all []byte
		for range r.Intn(12) {
			piece := drawn(r, []int{0, r.Intn(4), r.Intn(70), 64, r.Intn(400)}[r.Intn(5)])
			h.Write(piece)
			all = append(all, piece...)
			for range r.Intn(3) {
				checkHash(t, h, all)
			}
		}
		checkHash(t, h, all)
	}
}

// P3.6

func TestEndsBehindWholeBlocks(t *testing.T) {
	r := rand.New(rand.NewSource(43))
	for _, blocks := range []int{0, 1, 2, 3, 10} {
		a := drawn(r, 64*blocks)
		words := through(start, a)
		for _, n := range lengths {
			b := drawn(r, n)
			whole := slices.Concat(a, b)
			end := slices.Concat(b, hash.Pad(uint64(len(whole))))
			if got, want := hash.Sum(whole), joined(through(words, end)); got != want {
				t.Errorf("of %d blocks and %d bytes: %x, not %x", blocks, n, got, want)
			}
		}
	}
}

// P3.7

func TestPadFillsBlocks(t *testing.T) {
	for _, n := range numbers() {
		p := hash.Pad(n)
		if (n%64+uint64(len(p)))%64 != 0 || len(p) < 9 || len(p) > 72 {
			t.Errorf("Pad(%d) has %d bytes", n, len(p))
		}
	}
}

func TestPadsEndOtherwise(t *testing.T) {
	seen := map[[8]byte]uint64{}
	for _, n := range numbers() {
		if n >= 1<<61 {
			continue
		}
		p := hash.Pad(n)
		last := [8]byte(p[len(p)-8:])
		if m, ok := seen[last]; ok && m != n {
			t.Errorf("Pad(%d) and Pad(%d) end with %x", m, n, last)
		}
		seen[last] = n
	}
	// From 2^61 on the count of bits begins anew.
	if !bytes.Equal(hash.Pad(1<<61), hash.Pad(0)) || !bytes.Equal(hash.Pad(1<<61+3), hash.Pad(3)) {
		t.Errorf("Pad(2^61): %x, Pad(2^61 + 3): %x", hash.Pad(1<<61), hash.Pad(1<<61+3))
	}
}

// checkBlock holds Block against the library's.
func checkBlock(t *testing.T, h [8]uint32, b [64]byte) {
	t.Helper()
	if got, want := hash.Block(h, b), libraryBlock(t, h, b); got != want {
		t.Errorf("Block(%08x, %x): %08x, not %08x", h, b, got, want)
	}
}

// checkHash tells whether just the bytes came to h, and that asking it changes nothing.
func checkHash(t *testing.T, h *hash.Hash, all []byte) {
	t.Helper()
	want := api.Key(sha256.Sum256(all))
	for range 2 {
		if got := h.Sum(); got != want {
			t.Errorf("of %d bytes: %x, not %x", len(all), got, want)
		}
		if h.Size() != uint64(len(all)) {
			t.Errorf("Size %d, not %d", h.Size(), len(all))
		}
	}
	if got := hash.Sum(all); got != want {
		t.Errorf("Sum of %d bytes: %x, not %x", len(all), got, want)
	}
}

// libraryBlock is the words that the library's hash comes to from h by one block: its state is laid down and taken up as bytes.
func libraryBlock(t *testing.T, h [8]uint32, b [64]byte) [8]uint32 {
	t.Helper()
	state := []byte("sha\x03")
	for _, w := range h {
		state = binary.BigEndian.AppendUint32(state, w)
	}
	state = append(state, make([]byte, 64+8)...)
	d := sha256.New()
	if err := d.(encoding.BinaryUnmarshaler).UnmarshalBinary(state); err != nil {
		t.Fatal(err)
	}
	d.Write(b[:])
	state, err := d.(encoding.BinaryMarshaler).MarshalBinary()
	if err != nil {
		t.Fatal(err)
	}
	for i := range h {
		h[i] = binary.BigEndian.Uint32(state[4+4*i:])
	}
	return h
}

// through is what the blocks of b, one behind the other, make of the words h.
func through(h [8]uint32, b []byte) [8]uint32 {
	for block := range slices.Chunk(b, 64) {
		h = hash.Block(h, [64]byte(block))
	}
	return h
}

// joined is eight words as bytes, each highest first.
func joined(h [8]uint32) api.Key {
	var b []byte
	for _, w := range h {
		b = binary.BigEndian.AppendUint32(b, w)
	}
	return api.Key(b)
}

// pad is the padding as the chapter tells it, zero by zero.
func pad(n uint64) []byte {
	p := []byte{0x80}
	for (n%64+uint64(len(p))+8)%64 != 0 {
		p = append(p, 0)
	}
	return binary.BigEndian.AppendUint64(p, 8*n)
}

// numbers is numbers of bytes: small ones, those around powers of two, and drawn ones.
func numbers() []uint64 {
	var ns []uint64
	for n := range uint64(400) {
		ns = append(ns, n, -n)
	}
	for i := 9; i < 64; i++ {
		for d := range uint64(130) {
			ns = append(ns, 1<<i-65+d)
		}
	}
	r := rand.New(rand.NewSource(44))
	for range 1000 {
		n := r.Uint64()
		ns = append(ns, n, n>>3, n>>32)
	}
	return ns
}

func upTo(n int) []int {
	var all []int
	for i := range n {
		all = append(all, i)
	}
	return all
}

func drawn(r *rand.Rand, n int) []byte {
	b := make([]byte, n)
	r.Read(b)
	return b
}

func drawnWords(r *rand.Rand) (h [8]uint32) {
	for i := range h {
		h[i] = r.Uint32()
	}
	return h
}

func drawnBlock(r *rand.Rand) [64]byte { return [64]byte(drawn(r, 64)) }

func evenWords(w uint32) (h [8]uint32) {
	for i := range h {
		h[i] = w
	}
	return h
}

func evenBlock(x byte) [64]byte { return [64]byte(bytes.Repeat([]byte{x}, 64)) }

// read is a hash written in hexadecimal, with spaces.
func read(t *testing.T, s string) api.Key {
	t.Helper()
	b, err := hex.DecodeString(strings.ReplaceAll(s, " ", ""))
	if err != nil || len(b) != api.KeySize {
		t.Fatal(s, err)
	}
	return api.Key(b)
}

func abc(t *testing.T) api.Key {
	return read(t, "ba7816bf 8f01cfea 414140de 5dae2223 b00361a3 96177a9c b410ff61 f20015ad")
}

func noBytes(t *testing.T) api.Key {
	return read(t, "e3b0c442 98fc1c14 9afbf4c8 996fb924 27ae41e4 649b934c a495991b 7852b855")
}
