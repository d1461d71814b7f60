package seal

import (
	"pawl/api"
	"pawl/mac"
)

// tagOf is the tag of a cipher text. The number of extra bytes stands ahead of all, so that no byte of the parts behind it can be taken for one of another part.
func tagOf(key api.Key, nonce api.Nonce, extra, text []byte) []byte {
	sum := sumOf(key, eight(uint64(len(extra))), extra, nonce[:], text)
	return sum[:api.TagSize]
}

// sumOf is the sum of parts, one behind the other; they are never put together, since a box's may be great.
func sumOf(key api.Key, parts ...[]byte) api.Key {
	m := mac.New(key[:])
	for _, p := range parts {
		m.Write(p)
	}
	return m.Sum()
}

// eight is a number's eight bytes, the lowest first.
func eight(n uint64) []byte {
	out := make([]byte, 8)
	for i := range out {
		out[i] = byte(n >> (8 * i))
	}
	return out
}
