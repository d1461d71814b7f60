package files_test

import (
	"bytes"
	"math"
	"math/rand"
	"slices"
	"testing"

	"pawl/api"
	"pawl/files"
)

// What several tests draw, and how they ask.

// lengths is how many bytes the files have that are gone through whole: about the ends of chunks, and about numbers of chunks at which the tree has another form.
var lengths = []int{0, 1, 2, 15, 16, 17, 239, 240, 241, 255, 256, 257, 258, 271, 272, 273, 300, 511, 512, 513, 528, 700, 767, 768, 769, 1023, 1024, 1025, 1280, 1281, 1500, 2047, 2048, 2049}

// outside is numbers that are nowhere a size, a place or a number of bytes; those among them that come to good ones if bits or the sign are lost, or if they run over.
var outside = []int{-1, -2, -15, -16, -17, -255, -256, -257, -272, -273, -most, -1 << 31, -1<<32 + 1, -1<<32 + 16, -1<<32 + 272, math.MinInt, math.MinInt + 1, math.MinInt + 15, math.MinInt + 16, math.MinInt + 272,
	2*most + 1, math.MaxInt32, 1 << 31, 1 << 32, 1<<32 + 1, 1<<32 + 16, 1<<32 + 272, 1<<32 + 289, 1<<40 + 16, math.MaxInt - 271, math.MaxInt - 255, math.MaxInt - 16, math.MaxInt - 1, math.MaxInt}

func drawn(seed int64, n int) []byte {
	b := make([]byte, n)
	rand.New(rand.NewSource(seed)).Read(b)
	return b
}

func keyOf(seed int64) api.Key { return api.Key(drawn(1000+seed, 32)) }

// turned is a list in which one bit is another.
func turned(b []byte, bit int) []byte {
	out := slices.Clone(b)
	out[bit/8] ^= 1 << (bit % 8)
	return out
}

func turnedKey(k api.Key, bit int) api.Key { return api.Key(turned(k[:], bit)) }

// spoiled is a sealed file in which each of these chunks has one bit turned: one of its tag for the even ones, so that a chunk without bytes has one.
func spoiled(boxes [][]byte, numbers ...int) []byte {
	l := slices.Clone(boxes)
	for _, i := range numbers {
		bit := 0
		if i%2 == 0 {
			bit = 8*len(l[i]) - 1
		}
		l[i] = turned(l[i], bit)
	}
	return slices.Concat(l...)
}

// subsets is all lists of numbers below n, rising.
func subsets(n int) [][]int {
	var all [][]int
	for bits := range 1 << n {
		var l []int
		for i := range n {
			if bits>>i&1 == 1 {
				l = append(l, i)
			}
		}
		all = append(all, l)
	}
	return all
}

// sealedBy is a sealed file and its digest, as the layer makes them; the test ends if it is refused.
func sealedBy(t testing.TB, key api.Key, plain []byte) ([]byte, api.Key) {
	t.Helper()
	b, digest, e := files.Seal(key, plain)
	if e != api.OK {
		t.Fatalf("Seal of %d bytes: %v", len(plain), e)
	}
	return b, digest
}

// digestNow is the digest of bytes as they stand; the zero key, if they are no sealed file.
func digestNow(sealed []byte) api.Key {
	k, _ := digestByWords(sealed)
	return k
}

// opens, ranges, tells, digests, proves: a call is held against the words.

func opens(t *testing.T, what string, key, digest api.Key, sealed []byte) {
	t.Helper()
	want, why := openByWords(key, digest, sealed)
	got, e := files.Open(key, digest, sealed)
	if e != why || !bytes.Equal(got, want) {
		t.Errorf("%s: Open of %d bytes: %.40x, %v, not %.40x, %v", what, len(sealed), got, e, want, why)
	}
}

func ranges(t *testing.T, what string, key api.Key, sealed []byte, at, n int) {
	t.Helper()
	want, why := rangeByWords(key, sealed, at, n)
	got, e := files.Range(key, sealed, at, n)
	if e != why || !bytes.Equal(got, want) {
		t.Errorf("%s: Range of %d bytes from %d on of %d: %.40x, %v, not %.40x, %v", what, n, at, len(sealed), got, e, want, why)
	}
}

func tells(t *testing.T, what string, key api.Key, sealed []byte) {
	t.Helper()
	want, why := spoiltByWords(key, sealed)
	got, e := files.Spoilt(key, sealed)
	if e != why || !slices.Equal(got, want) {
		t.Errorf("%s: Spoilt of %d bytes: %v, %v, not %v, %v", what, len(sealed), got, e, want, why)
	}
}

func digests(t *testing.T, what string, sealed []byte) {
	t.Helper()
	want, why := digestByWords(sealed)
	if got, e := files.Digest(sealed); e != why || got != want {
		t.Errorf("%s: Digest of %d bytes: %x, %v, not %x, %v", what, len(sealed), got, e, want, why)
	}
}

func proves(t *testing.T, what string, sealed []byte, i int) {
	t.Helper()
	want, wantPath, why := proofByWords(sealed, i)
	got, path, e := files.Proof(sealed, i)
	if e != why || !bytes.Equal(got, want) || !slices.Equal(path, wantPath) {
		t.Errorf("%s: Proof of %d of %d bytes: %.40x, %d keys, %v, not %.40x, %d keys, %v", what, i, len(sealed), got, len(path), e, want, len(wantPath), why)
	}
}

// asks holds a piece against the words; the answer's error comes back.
func asks(t *testing.T, what string, key, digest api.Key, size, i int, chunk []byte, path []api.Key) api.Errno {
	t.Helper()
	want, why := pieceByWords(key, digest, size, i, chunk, path)
	got, e := files.Piece(key, digest, size, i, chunk, path)
	if e != why || !bytes.Equal(got, want) {
		t.Errorf("%s: Piece %d of %d bytes: %.40x, %v, not %.40x, %v", what, i, size, got, e, want, why)
	}
	return e
}
