package mac_test

import (
	"bytes"
	"crypto/hmac"
	"crypto/sha256"
	"encoding/hex"
	"math/rand"
	"slices"
	"testing"

	"pawl/api"
	"pawl/hash"
	"pawl/mac"
)

// keyLengths is those at which the block key turns, and some that lie far off.
var keyLengths = []int{0, 1, 2, 20, 31, 32, 33, 62, 63, 64, 65, 66, 96, 127, 128, 129, 131, 200, 1000}

// lengths is those of bytes at which a block of the inner hash fills, and some that lie far off.
var lengths = []int{0, 1, 2, 31, 32, 33, 54, 55, 56, 57, 63, 64, 65, 119, 120, 127, 128, 129, 192, 1000, 5000}

// P4.1

func TestSumExamples(t *testing.T) {
	for _, c := range []struct{ key, b, want string }{
		{"key", "The quick brown fox jumps over the lazy dog", "f7bc83f430538424b13298e6aa6fb143ef4d59a14946175997479dbc2d1a3cd8"},
		{"", "", "b613679a0814d9ec772f95d778c35fc5ff1697c493715653c6c712144292c5ad"},
		{"Jefe", "what do ya want for nothing?", "5bdcc146bf60754e6a042426089575c75a003f089d2739839dec58b964ec3843"},
		{string(bytes.Repeat([]byte{0x0b}, 20)), "Hi There", "b0344c61d8db38535ca8afceaf0bf12b881dc200c9833da726e9376c2e32cff7"},
		{string(bytes.Repeat([]byte{0xaa}, 131)), "Test Using Larger Than Block-Size Key - Hash Key First", "60e431591ee0b67f0d8a26aacbf5b77f8e0bc6213728c5140546040f0ee37f54"},
	} {
		if got := mac.Sum([]byte(c.key), []byte(c.b)); got != read(t, c.want) {
			t.Errorf("Sum under %q of %q: %x", c.key, c.b, got)
		}
	}
}

func TestSumOfNilAndEmpty(t *testing.T) {
	want := read(t, "b613679a0814d9ec772f95d778c35fc5ff1697c493715653c6c712144292c5ad")
	for _, key := range [][]byte{nil, {}} {
		for _, b := range [][]byte{nil, {}} {
			if got := mac.Sum(key, b); got != want {
				t.Errorf("Sum(%#v, %#v): %x", key, b, got)
			}
		}
	}
}

func TestSumOfLengths(t *testing.T) {
	r := rand.New(rand.NewSource(51))
	for _, k := range keyLengths {
		for _, n := range lengths {
			for _, key := range [][]byte{drawn(r, k), make([]byte, k), bytes.Repeat([]byte{0xff}, k)} {
				checkSum(t, key, drawn(r, n))
			}
		}
	}
}

func TestSumOfEveryKeyLength(t *testing.T) {
	r := rand.New(rand.NewSource(52))
	for k := range 300 {
		checkSum(t, drawn(r, k), drawn(r, r.Intn(200)))
	}
}

// The word itself: two hashes, one within the other.
func TestSumByItsHashes(t *testing.T) {
	r := rand.New(rand.NewSource(53))
	for _, k := range keyLengths {
		for _, n := range lengths {
			key, b := drawn(r, k), drawn(r, n)
			inside := hash.Sum(slices.Concat(masked(key, 0x36), b))
			want := hash.Sum(slices.Concat(masked(key, 0x5c), inside[:]))
			if got := mac.Sum(key, b); got != want {
				t.Errorf("Sum under %d bytes of %d: %x, by its hashes %x", k, n, got, want)
			}
		}
	}
}

// Each bit of a key has its own place and weight.
func TestSumOfEveryBitOfAKey(t *testing.T) {
	seen := map[api.Key]int{}
	for _, k := range []int{1, 32, 64} {
		for i := range 8 * k {
			key := bytes.Repeat([]byte{0x36}, k)
			key[i/8] ^= 1 << (i % 8)
			checkSum(t, key, []byte("b"))
			seen[mac.Sum(key, []byte("b"))]++
		}
	}
	if len(seen) != 8*(1+32+64) {
		t.Errorf("only %d sums", len(seen))
	}
}

func TestSumOfEachByte(t *testing.T) {
	for i := range 256 {
		checkSum(t, []byte{byte(i)}, []byte{byte(255 - i)})
		checkSum(t, nil, []byte{byte(i)})
		checkSum(t, []byte{byte(i)}, nil)
	}
}

func TestSumLeavesItsArguments(t *testing.T) {
	r := rand.New(rand.NewSource(54))
	for _, k := range keyLengths {
		for _, n := range []int{0, 1, 63, 64, 65, 300} {
			keyRoom, room := drawn(r, k+200), drawn(r, n+200)
			key, b := slices.Clone(keyRoom), slices.Clone(room)
			first := mac.Sum(keyRoom[:k], room[:n])
			if !bytes.Equal(keyRoom, key) || !bytes.Equal(room, b) {
				t.Fatalf("Sum under %d bytes of %d changes them, or what lies behind", k, n)
			}
			clear(keyRoom)
			clear(room)
			if got := mac.Sum(keyRoom[:k], room[:n]); got != library(make([]byte, k), make([]byte, n)) {
				t.Errorf("Sum of other bytes in the same places: %x", got)
			}
			if got := mac.Sum(slices.Clip(key[:k]), slices.Clip(b[:n])); got != first || got != library(key[:k], b[:n]) {
				t.Errorf("Sum under %d bytes of %d again: %x, not %x", k, n, got, first)
			}
		}
	}
}

// One list may be both.
func TestSumUnderItsOwnBytes(t *testing.T) {
	r := rand.New(rand.NewSource(55))
	for _, k := range keyLengths {
		b := drawn(r, k)
		before := slices.Clone(b)
		if got := mac.Sum(b, b); got != library(before, before) || !bytes.Equal(b, before) {
			t.Errorf("Sum of %d bytes under themselves: %x", k, got)
		}
	}
}

// P4.2

func TestMacExample(t *testing.T) {
	m := mac.New([]byte("key"))
	checkMac(t, m, []byte("key"), nil)
	m.Write([]byte("The quick brown "))
	checkMac(t, m, []byte("key"), []byte("The quick brown "))
	m.Write(nil)
	m.Write([]byte{})
	m.Write([]byte("fox jumps over the lazy dog"))
	if got := m.Sum(); got != read(t, "f7bc83f430538424b13298e6aa6fb143ef4d59a14946175997479dbc2d1a3cd8") {
		t.Errorf("in pieces: %x", got)
	}
	m.Reset()
	checkMac(t, m, []byte("key"), nil)
}

func TestNewOfNilAndEmpty(t *testing.T) {
	for _, key := range [][]byte{nil, {}} {
		m := mac.New(key)
		checkMac(t, m, nil, nil)
		m.Write([]byte("a"))
		checkMac(t, m, nil, []byte("a"))
	}
}

func TestNewOfKeyLengths(t *testing.T) {
	r := rand.New(rand.NewSource(56))
	for _, k := range keyLengths {
		for _, n := range lengths {
			key, b := drawn(r, k), drawn(r, n)
			m := mac.New(key)
			checkMac(t, m, key, nil)
			m.Write(b)
			checkMac(t, m, key, b)
			m.Reset()
			checkMac(t, m, key, nil)
		}
	}
}

func TestNewTakesTheKeyAsItIs(t *testing.T) {
	r := rand.New(rand.NewSource(57))
	for _, k := range keyLengths {
		room := drawn(r, k+200)
		before := slices.Clone(room)
		m := mac.New(room[:k])
		if !bytes.Equal(room, before) {
			t.Errorf("New changes a key of %d bytes, or what lies behind", k)
		}
		clear(room)
		checkMac(t, m, before[:k], nil)
		m.Write([]byte("some"))
		checkMac(t, m, before[:k], []byte("some"))
		m.Reset()
		checkMac(t, m, before[:k], nil)
		m.Write([]byte("others"))
		checkMac(t, m, before[:k], []byte("others"))
		if !bytes.Equal(room, make([]byte, k+200)) {
			t.Errorf("a Mac changes the key of %d bytes that it was made of", k)
		}
	}
}

func TestWriteDoesNotKeepItsBytes(t *testing.T) {
	r := rand.New(rand.NewSource(58))
	key := drawn(r, 40)
	for _, n := range lengths {
		room := drawn(r, n+200)
		before := slices.Clone(room)
		m := mac.New(key)
		m.Write(room[:n])
		m.Sum()
		if !bytes.Equal(room, before) {
			t.Errorf("Write of %d bytes changes them, or what lies behind", n)
		}
		clear(room)
		checkMac(t, m, key, before[:n])
		m.Write(before[n:])
		checkMac(t, m, key, before)
		if !bytes.Equal(room, make([]byte, n+200)) {
			t.Errorf("a later Write changes the %d bytes of an earlier one", n)
		}
	}
}

func TestSumChangesNothing(t *testing.T) {
	r := rand.New(rand.NewSource(59))
	key := drawn(r, 70)
	m := mac.New(key)
	var all []byte
	for _, n := range lengths {
		for range 3 {
			checkMac(t, m, key, all)
		}
		b := drawn(r, n)
		m.Write(b)
		all = append(all, b...)
	}
	checkMac(t, m, key, all)
}

func TestResetAnywhere(t *testing.T) {
	r := rand.New(rand.NewSource(60))
	for _, k := range []int{0, 3, 64, 65} {
		key := drawn(r, k)
		m := mac.New(key)
		m.Reset()
		checkMac(t, m, key, nil)
		for i, n := range lengths {
			m.Write(drawn(r, n))
			if i%2 == 0 {
				m.Sum()
			}
			m.Reset()
			checkMac(t, m, key, nil)
			b := drawn(r, 100)
			m.Write(b)
			checkMac(t, m, key, b)
			m.Reset()
			m.Reset()
			checkMac(t, m, key, nil)
		}
	}
}

// P4.6

func TestSameExamples(t *testing.T) {
	for _, c := range []struct {
		a, b []byte
		want bool
	}{
		{[]byte("ab"), []byte("ab"), true},
		{[]byte("ab"), []byte("abc"), false},
		{[]byte("abc"), []byte("ab"), false},
		{[]byte(""), []byte("a"), false},
		{[]byte("a"), nil, false},
		{[]byte{0}, nil, false},
		{nil, []byte{0}, false},
		{nil, []byte{}, true},
		{[]byte{}, nil, true},
		{nil, nil, true},
		{[]byte{}, []byte{}, true},
		{[]byte("ab"), []byte("ac"), false},
		{[]byte("ab"), []byte("bb"), false},
		{[]byte("ab"), []byte("ba"), false},
		{[]byte("ab"), []byte("cd"), false},
	} {
		if got := mac.Same(c.a, c.b); got != c.want {
			t.Errorf("Same(%#v, %#v): %v", c.a, c.b, got)
		}
	}
}

func TestSameOfEveryTwoBytes(t *testing.T) {
	for i := range 256 {
		for j := range 256 {
			if got := mac.Same([]byte{byte(i)}, []byte{byte(j)}); got != (i == j) {
				t.Errorf("Same(%02x, %02x): %v", i, j, got)
			}
		}
	}
}

func TestSameOfOneBitTurned(t *testing.T) {
	r := rand.New(rand.NewSource(61))
	for _, n := range []int{1, 2, 16, 32, 33, 300} {
		a := drawn(r, n)
		b := slices.Clone(a)
		if !mac.Same(a, b) || !mac.Same(a, a) {
			t.Errorf("%d bytes that are alike", n)
		}
		for i := range 8 * n {
			b[i/8] ^= 1 << (i % 8)
			if mac.Same(a, b) || mac.Same(b, a) {
				t.Errorf("bit %d of %d bytes turned", i, n)
			}
			b[i/8] ^= 1 << (i % 8)
		}
	}
}

// Two bytes that differ must not lift each other, by whatever they are put together.
func TestSameOfTwoBytesTurned(t *testing.T) {
	for i := range 16 {
		for j := range i {
			for _, d := range [][2]byte{{1, 1}, {0x80, 0x80}, {0xff, 0xff}, {1, 0xff}, {1, 2}, {0x0f, 0xf0}} {
				a, b := make([]byte, 16), make([]byte, 16)
				b[i], b[j] = d[0], d[1]
				if mac.Same(a, b) || mac.Same(b, a) {
					t.Errorf("bytes %d and %d turned by %x", i, j, d)
				}
			}
		}
	}
	if mac.Same(bytes.Repeat([]byte{0}, 256), bytes.Repeat([]byte{1}, 256)) {
		t.Error("256 bytes that all differ")
	}
}

func TestSameOfLengths(t *testing.T) {
	for n := range 70 {
		for k := range 70 {
			for _, fill := range []byte{0, 'a', 0xff} {
				a, b := bytes.Repeat([]byte{fill}, n), bytes.Repeat([]byte{fill}, k)
				if got := mac.Same(a, b); got != (n == k) {
					t.Errorf("Same of %d and %d bytes %02x: %v", n, k, fill, got)
				}
			}
		}
	}
	if mac.Same(make([]byte, 256), nil) || mac.Same(make([]byte, 3), make([]byte, 259)) {
		t.Error("lengths that are alike modulo 256")
	}
}

func TestSameLeavesItsArguments(t *testing.T) {
	roomA, roomB := []byte("abcdef"), []byte("abcxyz")
	if !mac.Same(roomA[:3], roomB[:3]) || mac.Same(roomA[:4], roomB[:4]) || !mac.Same(roomA[1:3], roomB[1:3]) {
		t.Error("what lies behind the bytes counts")
	}
	if string(roomA) != "abcdef" || string(roomB) != "abcxyz" {
		t.Errorf("now %q and %q", roomA, roomB)
	}
}

// P4.7

func TestKeysWithZerosBehind(t *testing.T) {
	r := rand.New(rand.NewSource(62))
	for k := range 65 {
		key, b := drawn(r, k), drawn(r, 50)
		want := mac.Sum(key, b)
		for long := k; long <= 64; long++ {
			if got := mac.Sum(slices.Concat(key, make([]byte, long-k)), b); got != want {
				t.Errorf("a key of %d bytes with %d zeros: %x, not %x", k, long-k, got, want)
			}
		}
		if got := mac.Sum(slices.Concat(key, make([]byte, 65-k)), b); got == want {
			t.Errorf("a key of %d bytes with zeros up to 65: %x", k, got)
		}
	}
}

func TestLongKeysByTheirHash(t *testing.T) {
	r := rand.New(rand.NewSource(63))
	for k := range 200 {
		key, b := drawn(r, k), drawn(r, 50)
		short := hash.Sum(key)
		if alike := mac.Sum(key, b) == mac.Sum(short[:], b); alike != (k > 64) {
			t.Errorf("a key of %d bytes and its hash: %v", k, alike)
		}
	}
}

func TestEveryCutInTwo(t *testing.T) {
	r := rand.New(rand.NewSource(64))
	key := drawn(r, 32)
	for _, n := range []int{0, 1, 63, 64, 65, 200} {
		b := drawn(r, n)
		for i := range n + 1 {
			m := mac.New(key)
			m.Write(b[:i])
			m.Write(b[i:])
			checkMac(t, m, key, b)
		}
	}
}

func TestEvenPieces(t *testing.T) {
	r := rand.New(rand.NewSource(65))
	key, b := drawn(r, 32), drawn(r, 500)
	m := mac.New(key)
	for size := 1; size <= 150; size++ {
		m.Reset()
		for piece := range slices.Chunk(b, size) {
			m.Write(piece)
		}
		checkMac(t, m, key, b)
	}
}

func TestDrawnPieces(t *testing.T) {
	r := rand.New(rand.NewSource(66))
	for range 300 {
		key := drawn(r, r.Intn(150))
		m := mac.New(key)
		var all []byte
		for range r.Intn(12) {
			piece := drawn(r, []int{0, r.Intn(4), r.Intn(70), 64, r.Intn(400)}[r.Intn(5)])
			m.Write(piece)
			all = append(all, piece...)
			for range r.Intn(3) {
				checkMac(t, m, key, all)
			}
			if r.Intn(8) == 0 {
				m.Reset()
				all = nil
			}
		}
		checkMac(t, m, key, all)
	}
}

func TestMacsKnowNothingOfEachOther(t *testing.T) {
	r := rand.New(rand.NewSource(67))
	for _, alike := range []bool{true, false} {
		keys := [][]byte{drawn(r, 40), drawn(r, 70)}
		if alike {
			keys[1] = keys[0]
		}
		macs := []*mac.Mac{mac.New(keys[0]), mac.New(keys[1])}
		all := make([][]byte, 2)
		for range 200 {
			i := r.Intn(2)
			if r.Intn(10) == 0 {
				macs[i].Reset()
				all[i] = nil
			}
			piece := drawn(r, r.Intn(90))
			macs[i].Write(piece)
			all[i] = append(all[i], piece...)
			mac.Sum(piece, keys[i])
			for j, m := range macs {
				checkMac(t, m, keys[j], all[j])
			}
		}
		checkMac(t, mac.New(keys[0]), keys[0], nil)
	}
}

// checkMac holds a Mac under way against the library's HMAC of all that came to it.
func checkMac(t *testing.T, m *mac.Mac, key, all []byte) {
	t.Helper()
	if got, want := m.Sum(), library(key, all); got != want {
		t.Errorf("a Mac under %d bytes, of %d: %x, not %x", len(key), len(all), got, want)
	}
}

// checkSum holds Sum against the library's.
func checkSum(t *testing.T, key, b []byte) {
	t.Helper()
	if got, want := mac.Sum(key, b), library(key, b); got != want {
		t.Errorf("Sum under %d bytes %.8x.. of %d bytes: %x, not %x", len(key), key, len(b), got, want)
	}
}

// library is the HMAC by Go's own library.
func library(key, b []byte) api.Key {
	h := hmac.New(sha256.New, key)
	h.Write(b)
	return api.Key(h.Sum(nil))
}

// masked is a key's block key, each byte xor a mask, by the chapter's words.
func masked(key []byte, mask byte) []byte {
	if len(key) > 64 {
		short := hash.Sum(key)
		key = short[:]
	}
	k := append(slices.Clone(key), make([]byte, 64-len(key))...)
	for i := range k {
		k[i] ^= mask
	}
	return k
}

func drawn(r *rand.Rand, n int) []byte {
	b := make([]byte, n)
	r.Read(b)
	return b
}

func read(t *testing.T, s string) api.Key {
	t.Helper()
	return api.Key(bytesOf(t, s))
}

func bytesOf(t *testing.T, s string) []byte {
	t.Helper()
	b, err := hex.DecodeString(s)
	if err != nil {
		t.Fatal(err)
	}
	return b
}
