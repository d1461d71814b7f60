package files

import (
	"pawl/api"
	"pawl/seal"
)

// sealedSize is how many bytes a sealed chunk has that is full.
const sealedSize = api.ChunkSize + api.TagSize

// Size is how many bytes a sealed file of n bytes has; Plain the other way round; Chunks how many chunks.
func Size(n int) (int, api.Errno) {
	chunks, why := Chunks(n)
	if why != api.OK {
		return 0, why
	}
	return n + chunks*api.TagSize, api.OK
}

// Plain takes the tags away, and believes what is left only if just so many come of it again: a last chunk can't be a tag alone, or less.
func Plain(n int) (int, api.Errno) {
	plain := n - pieces(n, sealedSize)*api.TagSize
	if size, why := Size(plain); why != api.OK || size != n {
		return 0, api.ErrFile
	}
	return plain, api.OK
}

func Chunks(n int) (int, api.Errno) {
	if n < 0 {
		return 0, api.ErrArg
	}
	if n > api.MaxFile {
		return 0, api.ErrLong
	}
	return pieces(n, api.ChunkSize), api.OK
}

// pieces is into how many pieces of a size n bytes are cut; no bytes are one.
func pieces(n, size int) int { return max(n-1, 0)/size + 1 }

// layout is where a file's chunks lie, and which is the last one; the size of the sealed file tells it alone.
type layout struct{ size, plain, chunks int }

func layoutOf(size int) (layout, api.Errno) {
	plain, why := Plain(size)
	if why != api.OK {
		return layout{}, why
	}
	return layout{size, plain, pieces(plain, api.ChunkSize)}, api.OK
}

// has tells whether a number is a chunk's.
func (l layout) has(i int) bool { return i >= 0 && i < l.chunks }

// place is where a sealed chunk begins and where it ends.
func (l layout) place(i int) (from, to int) {
	from = i * sealedSize
	return from, min(from+sealedSize, l.size)
}

// openBox is what a sealed chunk holds, if it was sealed for this place.
func (l layout) openBox(key api.Key, i int, box []byte) ([]byte, api.Errno) {
	b, why := seal.Open(key, nonceOf(i, i == l.chunks-1), nil, box)
	if why != api.OK {
		return nil, api.ErrChunk
	}
	return b, api.OK
}

// nonceOf is what a chunk is sealed with: its number, so that none can stand in another's place, and whether it is the last one, so that no end can be cut off.
func nonceOf(i int, last bool) api.Nonce {
	var n api.Nonce
	for at := range 8 {
		n[at] = byte(uint64(i) >> (8 * at))
	}
	if last {
		n[8] = 1
	}
	return n
}
