package envelope

import (
	"math/bits"

	"pawl/api"
	"pawl/schema"
)

// leastBucket is that of every version.
const leastBucket = 64

// rules are what a version, of that number, has of its own: bucket is its least bucket that has room for so many bytes.
type rules struct {
	number uint64
	bucket func(room int) int
}

// rulesOf are those of the version of that number; false, if it is not known. The number has 64 bits, so that none that is read from bytes becomes another one.
func rulesOf(number uint64) (rules, bool) {
	versions := map[uint64]func(room int) int{
		1: powers,
		2: eighths,
	}
	bucket, known := versions[number]
	return rules{number, bucket}, known
}

// powers are version 1's buckets: each is twice the one ahead. eighths are version 2's: from each power of two to the next they go by eighths of it.
func powers(room int) int { return roundUp(room, 1) }

func eighths(room int) int { return roundUp(room, 4) }

// roundUp is the least number from room on (and from leastBucket on) that has no bit but its so many highest ones.
func roundUp(room, digits int) int {
	room = max(room, leastBucket)
	step := 1 << (bits.Len(uint(room)) - digits)
	return (room + step - 1) / step * step
}

// bucketOf is the bucket of a plain text of n bytes.
func (r rules) bucketOf(n int) int { return r.bucket(countSize + n) }

// fits tells whether a body's box that is within the schema's bounds has a tag's bytes more than a bucket.
func (r rules) fits(box []byte) bool {
	n := len(box) - api.TagSize
	return n == r.bucket(n)
}

// codec makes the schema of the version's envelopes ready.
func (r rules) codec() *schema.Codec {
	most := uint64(r.bucketOf(api.MaxPlain) + api.TagSize)
	return compiled(
		api.Slot{No: versionNo, Kind: api.KNum, Least: r.number, Most: r.number},
		sized(nonceNo, api.NonceSize),
		sized(headerNo, headerBox),
		api.Slot{No: bodyNo, Kind: api.KBytes, Least: leastBucket + api.TagSize, Most: most},
	)
}

// sized is a slot of just so many bytes.
func sized(no int, size uint64) api.Slot {
	return api.Slot{No: no, Kind: api.KBytes, Least: size, Most: size}
}

// compiled makes one of this layer's schemas ready.
func compiled(slots ...api.Slot) *schema.Codec {
	c, _ := schema.Compile(slots) // OK: each of them can be
	return c
}
