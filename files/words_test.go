package files_test

import (
	"bytes"
	"crypto/aes"
	"crypto/cipher"
	"crypto/hkdf"
	"crypto/hmac"
	"crypto/sha256"
	"encoding/binary"
	"slices"
	"testing"

	"pawl/api"
)

// What the chapter says, done a second way: by Go's own HKDF, AES, HMAC and SHA-256 and by nothing of the program. Chunks are taken off the front one by one, trees are built from the leaves up, level by level.

const (
	full      = 256     // bytes of a chunk, as the document has it
	tagLong   = 16      // bytes of a tag
	most      = 1 << 20 // bytes of a file
	mostBoxes = 4096
)

// chunksOf is a file's chunks.
func chunksOf(plain []byte) [][]byte {
	var l [][]byte
	for len(plain) > full {
		l, plain = append(l, plain[:full]), plain[full:]
	}
	return append(l, plain)
}

// boxesOf is bytes cut into sealed chunks; none, if they are no sealed file's by their number.
func boxesOf(sealed []byte) [][]byte {
	var l [][]byte
	for len(sealed) > full+tagLong && len(l) < mostBoxes {
		l, sealed = append(l, sealed[:full+tagLong]), sealed[full+tagLong:]
	}
	empty := len(sealed) == tagLong
	if len(sealed) < tagLong || empty && len(l) > 0 || len(l) == mostBoxes {
		return nil
	}
	return append(l, sealed)
}

// cipherOf is the two keys that a key is for: one turns, one makes tags.
func cipherOf(key api.Key) (crypt cipher.Block, tag []byte) {
	both, err := hkdf.Expand(sha256.New, key[:], "pawl seal", 64)
	if err != nil {
		panic(err)
	}
	crypt, err = aes.NewCipher(both[:32])
	if err != nil {
		panic(err)
	}
	return crypt, both[32:]
}

func nonceByWords(i int, last bool) []byte {
	n := binary.LittleEndian.AppendUint64(nil, uint64(i))
	if last {
		return append(n, 1, 0, 0, 0, 0, 0, 0, 0)
	}
	return append(n, 0, 0, 0, 0, 0, 0, 0, 0)
}

// turnedBy is bytes turned by the stream of a key and a nonce; twice is as it was.
func turnedBy(crypt cipher.Block, nonce, b []byte) []byte {
	out := make([]byte, len(b))
	cipher.NewCTR(crypt, nonce).XORKeyStream(out, b)
	return out
}

func tagOf(key, nonce, text []byte) []byte {
	h := hmac.New(sha256.New, key)
	h.Write(slices.Concat(make([]byte, 8), nonce, text)) // of no extra bytes
	return h.Sum(nil)[:tagLong]
}

// boxBy is bytes sealed with a nonce.
func boxBy(key api.Key, nonce, plain []byte) []byte {
	crypt, tag := cipherOf(key)
	text := turnedBy(crypt, nonce, plain)
	return slices.Concat(text, tagOf(tag, nonce, text))
}

// unboxBy is what a box holds, and whether it opens.
func unboxBy(key api.Key, nonce, box []byte) ([]byte, bool) {
	crypt, tag := cipherOf(key)
	text := box[:len(box)-tagLong]
	if !bytes.Equal(tagOf(tag, nonce, text), box[len(text):]) {
		return nil, false
	}
	return turnedBy(crypt, nonce, text), true
}

// boxesBy is a file's sealed chunks.
func boxesBy(key api.Key, plain []byte) [][]byte {
	l := chunksOf(plain)
	for i, c := range l {
		l[i] = boxBy(key, nonceByWords(i, i == len(l)-1), c)
	}
	return l
}

func hashed(parts ...[]byte) api.Key { return sha256.Sum256(slices.Concat(parts...)) }
func leafOf(box []byte) api.Key      { return hashed([]byte{0}, box) }
func nodeOf(a, b api.Key) api.Key    { return hashed([]byte{1}, a[:], b[:]) }

func leavesOf(boxes [][]byte) []api.Key {
	var l []api.Key
	for _, b := range boxes {
		l = append(l, leafOf(b))
	}
	return l
}

// climb is the root over leaves and what stands beside the way from a place to it.
func climb(leaves []api.Key, at int) (root api.Key, path []api.Key) {
	for len(leaves) > 1 {
		if at^1 < len(leaves) {
			path = append(path, leaves[at^1])
		}
		var above []api.Key
		for two := range slices.Chunk(leaves, 2) {
			if len(two) == 2 {
				two = []api.Key{nodeOf(two[0], two[1])}
			}
			above = append(above, two[0])
		}
		leaves, at = above, at/2
	}
	return leaves[0], path
}

// rootOf is the digest of sealed chunks.
func rootOf(boxes [][]byte) api.Key {
	root, _ := climb(leavesOf(boxes), 0)
	return root
}

// made is the root that a path makes of a leaf at a place among n, and whether the path ends with the way.
func made(n, at int, leaf api.Key, path []api.Key) (api.Key, bool) {
	last := n - 1
	for _, key := range path {
		for last > 0 && at == last && at%2 == 0 {
			at, last = at/2, last/2
		}
		if last == 0 {
			return api.Key{}, false
		}
		if at%2 == 1 {
			leaf = nodeOf(key, leaf)
		} else {
			leaf = nodeOf(leaf, key)
		}
		at, last = at/2, last/2
	}
	return leaf, last == 0
}

// lies tells of a sealed file's number of bytes how many each of its sealed chunks has; none, if no file has such.
func lies(size int) []int {
	if size < 0 || size > 2*most {
		return nil
	}
	var l []int
	for _, b := range boxesOf(make([]byte, size)) {
		l = append(l, len(b))
	}
	return l
}

// opened is what each of the sealed chunks holds, and the numbers of those that do not open.
func opened(key api.Key, boxes [][]byte) (parts [][]byte, spoilt []int) {
	for i, box := range boxes {
		part, ok := unboxBy(key, nonceByWords(i, i == len(boxes)-1), box)
		if !ok {
			part, spoilt = make([]byte, len(box)-tagLong), append(spoilt, i)
		}
		parts = append(parts, part)
	}
	return parts, spoilt
}

func digestByWords(sealed []byte) (api.Key, api.Errno) {
	boxes := boxesOf(sealed)
	if boxes == nil {
		return api.Key{}, api.ErrFile
	}
	return rootOf(boxes), api.OK
}

func openByWords(key, digest api.Key, sealed []byte) ([]byte, api.Errno) {
	boxes := boxesOf(sealed)
	if boxes == nil {
		return nil, api.ErrFile
	}
	if rootOf(boxes) != digest {
		return nil, api.ErrProof
	}
	parts, spoilt := opened(key, boxes)
	if len(spoilt) > 0 {
		return nil, api.ErrChunk
	}
	return slices.Concat(parts...), api.OK
}

func spoiltByWords(key api.Key, sealed []byte) ([]int, api.Errno) {
	boxes := boxesOf(sealed)
	if boxes == nil {
		return nil, api.ErrFile
	}
	_, spoilt := opened(key, boxes)
	return spoilt, api.OK
}

// rangeByWords goes byte by byte, and asks of each whether its chunk opens. Its numbers are those that a range may be asked with, so that nothing runs over.
func rangeByWords(key api.Key, sealed []byte, at, n int) ([]byte, api.Errno) {
	boxes := boxesOf(sealed)
	if boxes == nil {
		return nil, api.ErrFile
	}
	parts, spoilt := opened(key, boxes)
	whole := slices.Concat(parts...)
	if at < 0 || n < 0 || uint64(at)+uint64(n) > uint64(len(whole)) {
		return nil, api.ErrArg
	}
	var out []byte
	for i := at; i < at+n; i++ {
		if slices.Contains(spoilt, i/full) {
			return nil, api.ErrChunk
		}
		out = append(out, whole[i])
	}
	return out, api.OK
}

func proofByWords(sealed []byte, i int) ([]byte, []api.Key, api.Errno) {
	boxes := boxesOf(sealed)
	if boxes == nil {
		return nil, nil, api.ErrFile
	}
	if i < 0 || i >= len(boxes) {
		return nil, nil, api.ErrArg
	}
	_, path := climb(leavesOf(boxes), i)
	return boxes[i], path, api.OK
}

func pieceByWords(key, digest api.Key, size, i int, chunk []byte, path []api.Key) ([]byte, api.Errno) {
	l := lies(size)
	if l == nil {
		return nil, api.ErrFile
	}
	if i < 0 || i >= len(l) {
		return nil, api.ErrArg
	}
	if root, ok := made(len(l), i, leafOf(chunk), path); len(chunk) != l[i] || !ok || root != digest {
		return nil, api.ErrProof
	}
	part, ok := unboxBy(key, nonceByWords(i, i == len(l)-1), chunk)
	if !ok {
		return nil, api.ErrChunk
	}
	return part, api.OK
}

// The words' own ways are held against what Go's library and the chapter's examples say elsewhere: here that they undo one another.
func TestWords(t *testing.T) {
	for _, n := range []int{0, 1, 255, 256, 257, 700} {
		plain := drawn(int64(n), n)
		boxes := boxesBy(keyOf(1), plain)
		sealed := slices.Concat(boxes...)
		if again := boxesOf(sealed); len(again) != len(boxes) || len(lies(len(sealed))) != len(boxes) {
			t.Errorf("%d bytes: %d chunks and %d", n, len(boxes), len(again))
		}
		if got, e := openByWords(keyOf(1), rootOf(boxes), sealed); e != api.OK || !bytes.Equal(got, plain) {
			t.Errorf("%d bytes: %x, %v", n, got, e)
		}
		for i := range boxes {
			box, path, _ := proofByWords(sealed, i)
			if got, e := pieceByWords(keyOf(1), rootOf(boxes), len(sealed), i, box, path); e != api.OK || !bytes.Equal(got, chunksOf(plain)[i]) {
				t.Errorf("%d bytes, chunk %d: %x, %v", n, i, got, e)
			}
		}
	}
}
