package block

import (
	"bytes"

	"pawl/api"
)

// Crypt turns bytes by the stream of a key and a nonce, from a place of the stream on.
func Crypt(key api.Key, nonce api.Nonce, at uint64, b []byte) []byte {
	c := New(key)
	count := further(Block(nonce), at/api.BlockSize)
	skip := int(at % api.BlockSize)
	out := bytes.Clone(b)
	for rest := out; len(rest) > 0; {
		stream := c.Encrypt(count)
		n := min(len(rest), len(stream)-skip)
		for i := range n {
			rest[i] ^= stream[skip+i]
		}
		rest, skip, count = rest[n:], 0, further(count, 1)
	}
	return out
}

// further is a count, highest byte first, that is greater by n; behind the greatest comes 0. No block's number is so great that a byte more would not fit into n.
func further(count Block, n uint64) Block {
	for i := len(count) - 1; i >= 0 && n > 0; i-- {
		n += uint64(count[i])
		count[i] = byte(n)
		n >>= 8
	}
	return count
}
