package wide_test

import (
	"bytes"
	"crypto/sha512"
	"encoding/hex"
	"math/rand"
	"slices"
	"strings"
	"testing"

	"pawl/api"
	"pawl/wide"
)

// P18.2

func TestPadExamples(t *testing.T) {
	for _, c := range []struct {
		n     uint64
		zeros int
		last  string
	}{
		{0, 111, "00000000000000000000000000000000"},
		{3, 108, "00000000000000000000000000000018"},
		{111, 0, "00000000000000000000000000000378"},
		{112, 127, "00000000000000000000000000000380"},
		{127, 112, "000000000000000000000000000003f8"},
		{128, 111, "00000000000000000000000000000400"},
		{1<<61 - 1, 112, "0000000000000000fffffffffffffff8"},
		{1 << 61, 111, "00000000000000010000000000000000"},
		{1 << 63, 111, "00000000000000040000000000000000"},
		{1<<64 - 1, 112, "0000000000000007fffffffffffffff8"},
	} {
		want := "80" + strings.Repeat("00", c.zeros) + c.last
		if got := hex.EncodeToString(wide.Pad(c.n)); got != want {
			t.Errorf("Pad(%d): %s, not %s", c.n, got, want)
		}
	}
}

func TestPad(t *testing.T) {
	for _, n := range numbers() {
		if got, want := wide.Pad(n), pad(n); !bytes.Equal(got, want) {
			t.Errorf("Pad(%d): %x, not %x", n, got, want)
		}
	}
}

func TestPadIsNewMemory(t *testing.T) {
	for _, n := range []uint64{0, 3, 111, 112, 127, 128, 1<<64 - 1} {
		first := wide.Pad(n)
		second := wide.Pad(n)
		first = first[:cap(first)]
		for i := range first {
			first[i] = 0xee
		}
		if !bytes.Equal(second, pad(n)) || !bytes.Equal(wide.Pad(n), pad(n)) {
			t.Errorf("Pad(%d) changes with another answer of it", n)
		}
		if wide.Sum([]byte("abc")) != abc(t) {
			t.Errorf("Sum changes with an answer of Pad(%d)", n)
		}
	}
}

// P18.3

func TestSumExamples(t *testing.T) {
	for _, c := range []struct{ b, want string }{
		{"", "cf83e1357eefb8bdf1542850d66d8007d620e4050b5715dc83f4a921d36ce9ce47d0d13c5d85f2b0ff8318d2877eec2f63b931bd47417a81a538327af927da3e"},
		{"abc", "ddaf35a193617abacc417349ae20413112e6fa4e89a97ea20a9eeee64b55d39a2192992a274fc1a836ba3c23a3feebbd454d4423643ce80e2a9ac94fa54ca49f"},
		{"abcdefghbcdefghicdefghijdefghijkefghijklfghijklmghijklmnhijklmnoijklmnopjklmnopqklmnopqrlmnopqrsmnopqrstnopqrstu", "8e959b75dae313da8cf4f72814fc143f8f7779c6eb9f7fa17299aeadb6889018501d289e4900f7e4331b99dec4b5433ac7d329eeb6dd26545e96e55b874be909"},
		{strings.Repeat("a", 1000000), "e718483d0ce769644e2e42c7bc15b4638e1f98b13b2044285632a803afa973ebde0ff244877ea60a4cb0432ce577c31beb009c5c2c49aa2e4eadb217ad8cc09b"},
	} {
		if got := wide.Sum([]byte(c.b)); got != read(t, c.want) {
			t.Errorf("Sum of %.60q: %x", c.b, got)
		}
	}
	if got, want := wide.Sum(nil), wide.Sum([]byte{}); got != want || got != noBytes(t) {
		t.Errorf("Sum of nil: %x, of an empty list: %x", got, want)
	}
}

func TestSumOfEachByte(t *testing.T) {
	for i := range 256 {
		b := []byte{byte(i)}
		if got := wide.Sum(b); got != sha512.Sum512(b) {
			t.Errorf("Sum(%x): %x", b, got)
		}
	}
}

func TestSumOfLengths(t *testing.T) {
	r := rand.New(rand.NewSource(186))
	for _, n := range append(upTo(700), lengths...) {
		for _, b := range [][]byte{drawn(r, n), make([]byte, n), bytes.Repeat([]byte{0xff}, n)} {
			if got := wide.Sum(b); got != sha512.Sum512(b) {
				t.Errorf("Sum of %d bytes %.8x..: %x", n, b, got)
			}
		}
	}
}

// The rule itself: blocks of b | Pad, one behind the other.
func TestSumByItsBlocks(t *testing.T) {
	r := rand.New(rand.NewSource(187))
	for _, n := range lengths {
		b := drawn(r, n)
		want := joined(through(start, append(slices.Clone(b), wide.Pad(uint64(n))...)))
		if got := wide.Sum(b); got != want {
			t.Errorf("Sum of %d bytes: %x, by its blocks %x", n, got, want)
		}
	}
}

func TestSumLeavesItsBytes(t *testing.T) {
	r := rand.New(rand.NewSource(188))
	for _, n := range lengths {
		room := drawn(r, n+300)
		before := slices.Clone(room)
		first := wide.Sum(room[:n])
		if !bytes.Equal(room, before) {
			t.Errorf("Sum of %d bytes changes them, or what lies behind", n)
		}
		// What lies in the room behind the bytes does not count.
		if got := wide.Sum(slices.Clip(slices.Clone(before[:n]))); got != first {
			t.Errorf("Sum of %d bytes in another place: %x, not %x", n, got, first)
		}
		clear(room)
		if got := wide.Sum(room[:n]); got != sha512.Sum512(make([]byte, n)) {
			t.Errorf("Sum of %d other bytes in the same place: %x", n, got)
		}
	}
}

// P18.4

func TestHashExample(t *testing.T) {
	h := wide.New()
	checkHash(t, h, nil)
	h.Write([]byte("a"))
	checkHash(t, h, []byte("a"))
	h.Write(nil)
	h.Write([]byte{})
	checkHash(t, h, []byte("a"))
	h.Write([]byte("bc"))
	checkHash(t, h, []byte("abc"))
	if h.Sum() != abc(t) {
		t.Errorf("of abc: %x", h.Sum())
	}
	h.Reset()
	checkHash(t, h, nil)
	if h.Sum() != noBytes(t) {
		t.Errorf("after Reset: %x", h.Sum())
	}
}

func TestResetAnywhere(t *testing.T) {
	r := rand.New(rand.NewSource(189))
	h := wide.New()
	for _, n := range lengths {
		h.Write(drawn(r, n))
		h.Reset()
		checkHash(t, h, nil)
		b := drawn(r, 200)
		h.Write(b)
		checkHash(t, h, b)
		h.Reset()
		h.Reset()
		checkHash(t, h, nil)
	}
}

func TestWriteDoesNotKeepItsBytes(t *testing.T) {
	r := rand.New(rand.NewSource(190))
	for _, n := range lengths {
		room := drawn(r, n+300)
		before := slices.Clone(room)
		h := wide.New()
		h.Write(room[:n])
		h.Sum()
		if !bytes.Equal(room, before) {
			t.Errorf("Write of %d bytes changes them, or what lies behind", n)
		}
		clear(room)
		checkHash(t, h, before[:n])
		h.Write(before[n:])
		if !bytes.Equal(room, make([]byte, n+300)) {
			t.Errorf("a later Write changes the %d bytes of an earlier one", n)
		}
		checkHash(t, h, before)
	}
}

func TestClone(t *testing.T) {
	r := rand.New(rand.NewSource(191))
	for _, n := range lengths {
		for _, more := range []int{0, 1, 16, 127, 128, 129, 300} {
			b, x, y := drawn(r, n), drawn(r, more), drawn(r, more+3)
			h := wide.New()
			h.Write(b)
			c := h.Clone()
			checkHash(t, c, b)
			h.Write(x)
			checkHash(t, c, b)
			c.Write(y)
			checkHash(t, h, slices.Concat(b, x))
			checkHash(t, c, slices.Concat(b, y))
			d := c.Clone()
			c.Reset()
			checkHash(t, h, slices.Concat(b, x))
			checkHash(t, d, slices.Concat(b, y))
			checkHash(t, c, nil)
			h.Write(y)
			checkHash(t, d, slices.Concat(b, y))
			checkHash(t, h, slices.Concat(b, x, y))
		}
	}
}

func TestHashesKnowNothingOfOneAnother(t *testing.T) {
	a, b := wide.New(), wide.New()
	a.Write([]byte("one"))
	checkHash(t, b, nil)
	b.Write([]byte("another"))
	checkHash(t, a, []byte("one"))
	a.Reset()
	checkHash(t, b, []byte("another"))
	a.Write(bytes.Repeat([]byte("many"), 100))
	checkHash(t, b, []byte("another"))
	checkHash(t, wide.New(), nil)
}

// P18.5

func TestEveryCutInTwo(t *testing.T) {
	r := rand.New(rand.NewSource(192))
	for _, n := range []int{0, 1, 111, 112, 127, 128, 129, 255, 256, 257, 600} {
		b := drawn(r, n)
		for i := range n + 1 {
			h := wide.New()
			h.Write(b[:i])
			h.Write(b[i:])
			checkHash(t, h, b)
		}
	}
}

func TestEvenPieces(t *testing.T) {
	r := rand.New(rand.NewSource(193))
	b := drawn(r, 1400)
	for size := 1; size <= 400; size++ {
		h := wide.New()
		for piece := range slices.Chunk(b, size) {
			h.Write(piece)
		}
		checkHash(t, h, b)
	}
}

func TestDrawnPieces(t *testing.T) {
	r := rand.New(rand.NewSource(194))
	for range 300 {
		h := wide.New()
		var all []byte
		for range r.Intn(12) {
			piece := drawn(r, []int{0, r.Intn(4), r.Intn(140), 128, r.Intn(800)}[r.Intn(5)])
			h.Write(piece)
			all = append(all, piece...)
			for range r.Intn(3) {
				checkHash(t, h, all)
			}
		}
		checkHash(t, h, all)
	}
}

// P18.6

func TestEndsBehindWholeBlocks(t *testing.T) {
	r := rand.New(rand.NewSource(195))
	for _, blocks := range []int{0, 1, 2, 3, 10} {
		a := drawn(r, 128*blocks)
		words := through(start, a)
		for _, n := range lengths {
			b := drawn(r, n)
			whole := slices.Concat(a, b)
			end := slices.Concat(b, wide.Pad(uint64(len(whole))))
			if got, want := wide.Sum(whole), joined(through(words, end)); got != want {
				t.Errorf("of %d blocks and %d bytes: %x, not %x", blocks, n, got, want)
			}
		}
	}
}

// P18.7

func TestPadFillsBlocks(t *testing.T) {
	for _, n := range numbers() {
		p := wide.Pad(n)
		if (n%128+uint64(len(p)))%128 != 0 || len(p) < 17 || len(p) > 144 {
			t.Errorf("Pad(%d) has %d bytes", n, len(p))
		}
	}
}

// Sixteen bytes have room for the count of bits of every n, so it never begins anew.
func TestPadsEndOtherwise(t *testing.T) {
	seen := map[[16]byte]uint64{}
	for _, n := range numbers() {
		for _, n := range []uint64{n, n + 1<<61, n + 1<<62, n + 1<<63} {
			p := wide.Pad(n)
			last := [16]byte(p[len(p)-16:])
			if m, ok := seen[last]; ok && m != n {
				t.Errorf("Pad(%d) and Pad(%d) end with %x", m, n, last)
			}
			seen[last] = n
		}
	}
}

// checkHash tells whether just the bytes came to h, and that asking it changes nothing.
func checkHash(t *testing.T, h *wide.Hash, all []byte) {
	t.Helper()
	want := api.Wide(sha512.Sum512(all))
	for range 2 {
		if got := h.Sum(); got != want {
			t.Errorf("of %d bytes: %x, not %x", len(all), got, want)
		}
		if h.Size() != uint64(len(all)) {
			t.Errorf("Size %d, not %d", h.Size(), len(all))
		}
	}
	if got := wide.Sum(all); got != want {
		t.Errorf("Sum of %d bytes: %x, not %x", len(all), got, want)
	}
}
