package files_test

import (
	"bytes"
	"slices"
	"testing"

	"pawl/api"
	"pawl/files"
)

// P25.7 and P25.12: chunks that are proved.

// proofOf is what Proof answers; the test ends if it is refused.
func proofOf(t *testing.T, sealed []byte, i int) ([]byte, []api.Key) {
	t.Helper()
	box, path, e := files.Proof(sealed, i)
	if e != api.OK {
		t.Fatalf("Proof of %d of %d bytes: %v", i, len(sealed), e)
	}
	return box, path
}

func TestProofOfEach(t *testing.T) {
	key := keyOf(41)
	for _, n := range lengths {
		plain := drawn(41, n)
		sealed, digest := sealedBy(t, key, plain)
		for i, c := range chunksOf(plain) {
			proves(t, "sealed", sealed, i)
			box, path := proofOf(t, sealed, i)
			got, e := files.Piece(key, digest, len(sealed), i, box, path)
			if e != api.OK || !bytes.Equal(got, c) {
				t.Errorf("chunk %d of %d bytes: %x, %v", i, n, got, e)
			}
			asks(t, "sealed", key, digest, len(sealed), i, box, path)
		}
	}
}

func TestProofOfTheLongest(t *testing.T) {
	key, plain := keyOf(42), drawn(42, most)
	sealed, digest := sealedBy(t, key, plain)
	for _, i := range []int{0, 1, 255, 256, 2047, 2048, 4095} {
		proves(t, "the longest", sealed, i)
		box, path := proofOf(t, sealed, i)
		got, e := files.Piece(key, digest, len(sealed), i, box, path)
		if e != api.OK || !bytes.Equal(got, plain[full*i:full*i+full]) || len(path) != 12 {
			t.Errorf("chunk %d: %.40x, %v, %d keys", i, got, e, len(path))
		}
	}
	proves(t, "the longest", sealed, 4096)
}

// A proof is of the bytes as they stand, whether they open or not; what else stands there does not matter.
func TestProofBeside(t *testing.T) {
	key, plain := keyOf(43), drawn(43, 1100)
	boxes := boxesBy(key, plain)
	for _, set := range subsets(len(boxes)) {
		b := spoiled(boxes, set...)
		for i := range boxes {
			proves(t, "some spoiled", b, i)
			box, path := proofOf(t, b, i)
			e := asks(t, "some spoiled", key, digestNow(b), len(b), i, box, path)
			want := api.OK
			if slices.Contains(set, i) {
				want = api.ErrChunk
			}
			if e != want {
				t.Errorf("chunk %d, %v spoiled: %v", i, set, e)
			}
			if len(set) > 0 {
				asks(t, "some spoiled, the digest that was", key, rootOf(boxes), len(b), i, box, path)
			}
		}
	}
}

func TestProofRefuses(t *testing.T) {
	b := drawn(44, 1200)
	for n := range b {
		for _, i := range append([]int{0, 1, 2, 3, 4, 5}, outside...) {
			proves(t, "drawn bytes", b[:n], i)
		}
	}
	for _, i := range append([]int{-1, 3, 4, 1<<32 + 1, 4096}, outside...) {
		if box, path, e := files.Proof(b[:600], i); box != nil || path != nil || e != api.ErrArg {
			t.Errorf("Proof of %d: %x, %v, %v", i, box, path, e)
		}
		if box, path, e := files.Proof(b[:545], i); box != nil || path != nil || e != api.ErrFile {
			t.Errorf("Proof of %d of no file: %x, %v, %v", i, box, path, e)
		}
	}
}

// piece is all that a piece is asked with, good as it is.
type piece struct {
	key, digest api.Key
	size, i     int
	chunk       []byte
	path        []api.Key
}

func goodPiece(t *testing.T, n, i int) piece {
	t.Helper()
	sealed, digest := sealedBy(t, keyOf(45), drawn(45, n))
	chunk, path := proofOf(t, sealed, i)
	return piece{keyOf(45), digest, len(sealed), i, chunk, path}
}

// is holds what comes of a piece: what the words say, and just this error.
func (p piece) is(t *testing.T, what string, why api.Errno) {
	t.Helper()
	if e := asks(t, what, p.key, p.digest, p.size, p.i, p.chunk, p.path); e != why {
		t.Errorf("%s: Piece %d of %d bytes: %v, not %v", what, p.i, p.size, e, why)
	}
}

func TestPieceRefusesInItsOrder(t *testing.T) {
	good := goodPiece(t, 1100, 2)
	good.is(t, "as it is", api.OK)
	key := func(p piece) piece { p.key = keyOf(46); return p }
	proof := func(p piece) piece { p.digest = turnedKey(p.digest, 77); return p }
	place := func(p piece) piece { p.i = 5; return p }
	size := func(p piece) piece { p.size = 1096; return p }
	for _, x := range []struct {
		what string
		how  []func(piece) piece
		why  api.Errno
	}{
		{"another key", []func(piece) piece{key}, api.ErrChunk},
		{"another digest", []func(piece) piece{proof}, api.ErrProof},
		{"another digest and key", []func(piece) piece{key, proof}, api.ErrProof},
		{"no place", []func(piece) piece{place}, api.ErrArg},
		{"no place, another digest and key", []func(piece) piece{key, proof, place}, api.ErrArg},
		{"no size", []func(piece) piece{size}, api.ErrFile},
		{"no size nor place, another digest and key", []func(piece) piece{key, proof, place, size}, api.ErrFile},
	} {
		p := good
		for _, change := range x.how {
			p = change(p)
		}
		p.is(t, x.what, x.why)
	}
}

// Each bit of the chunk, of the digest, of the keys of the path and of the key.
func TestPieceEveryBit(t *testing.T) {
	for _, x := range [][2]int{{300, 1}, {1100, 2}, {0, 0}} {
		good := goodPiece(t, x[0], x[1])
		for bit := range 8 * len(good.chunk) {
			p := good
			p.chunk = turned(p.chunk, bit)
			p.is(t, "a bit of the chunk turned", api.ErrProof)
		}
		for bit := range 256 {
			p := good
			p.digest = turnedKey(p.digest, bit)
			p.is(t, "a bit of the digest turned", api.ErrProof)
			p = good
			p.key = turnedKey(p.key, bit)
			p.is(t, "a bit of the key turned", api.ErrChunk)
			for k := range good.path {
				p := good
				p.path = slices.Clone(p.path)
				p.path[k] = turnedKey(p.path[k], bit)
				p.is(t, "a bit of the path turned", api.ErrProof)
			}
		}
	}
}

// paths is lists of keys that are not this one: one less, one more, two exchanged.
func paths(l []api.Key) [][]api.Key {
	all := [][]api.Key{append(slices.Clone(l), api.Key{}), slices.Insert(slices.Clone(l), 0, api.Key{7}), make([]api.Key, 100)}
	for i := range l {
		all = append(all, slices.Delete(slices.Clone(l), i, i+1), slices.Insert(slices.Clone(l), i, l[i]))
		for j := range i {
			other := slices.Clone(l)
			other[i], other[j] = other[j], other[i]
			all = append(all, other)
		}
	}
	return all
}

func TestPieceOtherPaths(t *testing.T) {
	for _, x := range [][2]int{{0, 0}, {257, 0}, {257, 1}, {700, 2}, {1100, 0}, {1100, 3}, {1100, 4}, {2048, 5}} {
		good := goodPiece(t, x[0], x[1])
		for _, path := range paths(good.path) {
			p := good
			p.path = path
			p.is(t, "another path", api.ErrProof)
		}
	}
}

// A chunk under another number, in a file of another size, or of another's chunk.
func TestPieceElsewhere(t *testing.T) {
	sealed, _ := sealedBy(t, keyOf(45), drawn(45, 1100))
	for i := range 5 {
		good := goodPiece(t, 1100, i)
		for j := range 5 {
			p := good
			p.i = j
			if j != i {
				p.is(t, "another number", api.ErrProof)
				p = good
				p.chunk, _ = proofOf(t, sealed, j)
				p.is(t, "another chunk", api.ErrProof)
			}
		}
		for size := -20; size < 2500; size++ {
			p := good
			p.size = size
			asks(t, "another size", p.key, p.digest, p.size, p.i, p.chunk, p.path)
		}
		for _, n := range append([]int{-1, 5, 6, 4095, 4096}, outside...) {
			p := good
			p.i = n
			p.is(t, "no number", api.ErrArg)
			p = good
			p.size = n
			p.is(t, "no size", api.ErrFile)
		}
	}
}

// Leaves of chunks that have not as many bytes as their place says are in the digest, and would open; the number of bytes alone refuses them.
func TestPieceLengths(t *testing.T) {
	key := keyOf(47)
	for _, x := range []struct{ n, i int }{{0, 0}, {1, 0}, {256, 0}, {300, 0}, {300, 1}, {700, 1}, {700, 2}} {
		boxes := boxesBy(key, drawn(47, x.n))
		size, last := len(slices.Concat(boxes...)), x.i == len(boxes)-1
		for long := range 300 {
			l := slices.Clone(boxes)
			l[x.i] = boxBy(key, nonceByWords(x.i, last), drawn(48, long))
			digest, path := climb(leavesOf(l), x.i)
			want := api.ErrProof
			if len(l[x.i]) == len(boxes[x.i]) {
				want = api.OK
			}
			if e := asks(t, "another length", key, digest, size, x.i, l[x.i], path); e != want {
				t.Errorf("%d bytes at %d of %d: %v", long, x.i, x.n, e)
			}
		}
		for short := range 16 {
			l := slices.Clone(boxes)
			l[x.i] = l[x.i][:short]
			digest, path := climb(leavesOf(l), x.i)
			if e := asks(t, "shorter than a tag", key, digest, size, x.i, l[x.i], path); e != api.ErrProof {
				t.Errorf("%d bytes at %d of %d: %v", short, x.i, x.n, e)
			}
		}
	}
}

// What the digest covers and nobody sealed for this place: the path holds, the chunk does not open.
func TestPieceOfSpoiltChunks(t *testing.T) {
	key, plain := keyOf(49), drawn(49, 700)
	boxes := boxesBy(key, plain)
	for i, c := range chunksOf(plain) {
		others := [][]byte{drawn(50, len(boxes[i])), make([]byte, len(boxes[i])), boxBy(key, nonceByWords(i, i != 2), c), boxBy(key, nonceByWords(i+1, i == 2), c), boxBy(keyOf(1), nonceByWords(i, i == 2), c)}
		for bit := range 128 {
			others = append(others, boxBy(key, turned(nonceByWords(i, i == 2), bit), c))
		}
		for _, other := range others {
			l := slices.Clone(boxes)
			l[i] = other
			digest, path := climb(leavesOf(l), i)
			p := piece{key, digest, len(slices.Concat(boxes...)), i, other, path}
			p.is(t, "not sealed for its place", api.ErrChunk)
		}
	}
}
