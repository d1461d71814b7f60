package files

import (
	"slices"

	"pawl/api"
	"pawl/seal"
	"pawl/tree"
)

// Writer seals a file whose bytes come piece by piece. It keeps the bytes of the chunk alone that may yet be the last one, and the leaves of those that were given out.
type Writer struct {
	key    api.Key
	part   []byte
	leaves []api.Key
	closed bool
}

// NewWriter: of no bytes; Write is what is sealed by now, beyond what was given out; Close the rest, and the digest.
func NewWriter(key api.Key) *Writer { return &Writer{key: key} }

func (w *Writer) Write(b []byte) ([]byte, api.Errno) {
	if w.closed {
		return nil, api.ErrArg
	}
	if len(b) > api.MaxFile-w.size() {
		return nil, api.ErrLong
	}
	all := slices.Concat(w.part, b)
	sure := pieces(len(all), api.ChunkSize) - 1
	var out []byte
	for i := range sure {
		out = append(out, w.next(all[i*api.ChunkSize:(i+1)*api.ChunkSize], false)...)
	}
	w.part = slices.Clone(all[sure*api.ChunkSize:])
	return out, api.OK
}

func (w *Writer) Close() ([]byte, api.Key, api.Errno) {
	if w.closed {
		return nil, api.Key{}, api.ErrArg
	}
	box := w.next(w.part, true)
	digest := tree.Root(w.leaves)
	*w = Writer{closed: true} // nothing is asked of the key any more
	return box, digest, api.OK
}

// size is how many bytes came.
func (w *Writer) size() int { return len(w.leaves)*api.ChunkSize + len(w.part) }

// next is the chunk behind those that were given out, sealed.
func (w *Writer) next(chunk []byte, last bool) []byte {
	box, _ := seal.Seal(w.key, nonceOf(len(w.leaves), last), nil, chunk) // OK: a chunk is short
	w.leaves = append(w.leaves, tree.Leaf(box))
	return box
}
