package tree_test

import (
	"crypto/sha256"
	"encoding/hex"
	"math"
	"math/rand"
	"slices"
	"testing"

	"pawl/api"
	"pawl/tree"
)

// What the tests hold the layer against: trees that are built from the leaves up, level by level, and proofs that are held by going up those levels (as RFC 9162 does), over Go's own SHA-256. Nothing here cuts a list in two, as the chapter's words do.

const mostLeaves = 1 << 16

func hashed(parts ...[]byte) api.Key { return sha256.Sum256(slices.Concat(parts...)) }

func leafOf(b []byte) api.Key     { return hashed([]byte{0}, b) }
func nodeOf(a, b api.Key) api.Key { return hashed([]byte{1}, a[:], b[:]) }

// levels is a tree: the leaves, above them the node of each two, and so on up to the root; one that has none beside it goes up as it is.
type levels [][]api.Key

func levelsOf(leaves []api.Key) levels {
	all := levels{leaves}
	for len(leaves) > 1 {
		var above []api.Key
		for two := range slices.Chunk(leaves, 2) {
			if len(two) == 2 {
				two = []api.Key{nodeOf(two[0], two[1])}
			}
			above = append(above, two[0])
		}
		all = append(all, above)
		leaves = above
	}
	return all
}

func (l levels) root() api.Key {
	top := l[len(l)-1]
	if len(top) == 0 {
		return hashed()
	}
	return top[0]
}

// path is what stands beside the way from a place to the root.
func (l levels) path(at int) []api.Key {
	var keys []api.Key
	for _, level := range l {
		if at^1 < len(level) {
			keys = append(keys, level[at^1])
		}
		at /= 2
	}
	return keys
}

// growth goes up from the last of the first m: as long as it ends a full pair, nothing of it has to be told; then itself, unless it is the first of its level, and what stands beside the way.
func (l levels) growth(m int) []api.Key {
	if m == 0 || m == len(l[0]) {
		return nil
	}
	at, up := m-1, 0
	for at%2 == 1 {
		at, up = at/2, up+1
	}
	beside := l[up:].path(at)
	if at == 0 {
		return beside
	}
	return slices.Concat([]api.Key{l[up][at]}, beside)
}

// made is the root that a path makes of a leaf, going up from it, and whether the path ends with the way.
func made(n, at int, leaf api.Key, path []api.Key) (api.Key, bool) {
	last := n - 1
	for _, key := range path {
		for last > 0 && at == last && at%2 == 0 {
			at, last = at/2, last/2
		}
		if last == 0 {
			return api.Key{}, false
		}
		if at%2 == 1 {
			leaf = nodeOf(key, leaf)
		} else {
			leaf = nodeOf(leaf, key)
		}
		at, last = at/2, last/2
	}
	return leaf, last == 0
}

// makes is the two roots that a growth makes from an old root, 0 < m < n, and whether it ends with the way.
func makes(old api.Key, m, n int, proof []api.Key) (was, is api.Key, ok bool) {
	at, last := m-1, n-1
	for at%2 == 1 {
		at, last = at/2, last/2
	}
	if at == 0 {
		proof = slices.Concat([]api.Key{old}, proof)
	}
	if len(proof) == 0 {
		return was, is, false
	}
	was, is = proof[0], proof[0]
	for _, key := range proof[1:] {
		for last > 0 && at == last && at%2 == 0 {
			at, last = at/2, last/2
		}
		if last == 0 {
			return was, is, false
		}
		if at%2 == 1 {
			was, is = nodeOf(key, was), nodeOf(key, is)
		} else {
			is = nodeOf(is, key)
		}
		at, last = at/2, last/2
	}
	return was, is, last == 0
}

func includedByWords(root api.Key, n, at int, leaf api.Key, path []api.Key) api.Errno {
	if n < 1 || n > mostLeaves || at < 0 || at > n-1 {
		return api.ErrLeaf
	}
	if got, ok := made(n, at, leaf, path); !ok || got != root {
		return api.ErrProof
	}
	return api.OK
}

func grownByWords(old api.Key, m int, root api.Key, n int, proof []api.Key) api.Errno {
	if n < 0 || n > mostLeaves || m < 0 || m > n {
		return api.ErrLeaf
	}
	if m == 0 || m == n {
		wrong := len(proof) > 0 || m == 0 && old != hashed() || n == 0 && root != hashed() || m == n && old != root
		if wrong {
			return api.ErrProof
		}
		return api.OK
	}
	if was, is, ok := makes(old, m, n, proof); !ok || was != old || is != root {
		return api.ErrProof
	}
	return api.OK
}

// outside is numbers that are nowhere a size or a place, those among them that come to good ones if bits or the sign are lost.
var outside = []int{-1, -2, -3, -mostLeaves, -1 << 31, -1<<31 + 1, -1 << 32, -1<<32 + 1, -1<<40 + 2, math.MinInt, math.MinInt + 1, math.MinInt + 2,
	mostLeaves + 1, mostLeaves + 2, 2 * mostLeaves, math.MaxInt32, 1 << 31, 1 << 32, 1<<32 + 1, 1<<32 + 2, 1<<40 + 2, math.MaxInt - 1, math.MaxInt}

// edges is sizes of great logs at which the trees have another form.
var edges = []int{1023, 1024, 1025, 1 << 15, 1<<15 + 1, 1<<15 + 1<<14, 1<<16 - 1, 1 << 16}

func drawnKey(r *rand.Rand) api.Key {
	var k api.Key
	r.Read(k[:])
	return k
}

func drawnKeys(seed int64, n int) []api.Key {
	r := rand.New(rand.NewSource(seed))
	l := make([]api.Key, n)
	for i := range l {
		l[i] = drawnKey(r)
	}
	return l
}

// keys are those that hexadecimal digits say.
func keys(t testing.TB, digits ...string) []api.Key {
	t.Helper()
	var l []api.Key
	for _, one := range digits {
		b, err := hex.DecodeString(one)
		if err != nil || len(b) != 32 {
			t.Fatalf("%q is no key", one)
		}
		l = append(l, api.Key(b))
	}
	return l
}

// logOf is a log of leaves; the test ends if it is refused.
func logOf(t testing.TB, leaves []api.Key) *tree.Log {
	t.Helper()
	l, e := tree.From(leaves)
	if e != api.OK || l == nil {
		t.Fatalf("From of %d: %v", len(leaves), e)
	}
	return l
}

// rootOf, pathOf, growthOf: what a log answers; the test ends if it is refused.
func rootOf(t testing.TB, l *tree.Log, n int) api.Key {
	t.Helper()
	k, e := l.Root(n)
	if e != api.OK {
		t.Fatalf("Root(%d): %v", n, e)
	}
	return k
}

func pathOf(t testing.TB, l *tree.Log, at, n int) []api.Key {
	t.Helper()
	p, e := l.Path(at, n)
	if e != api.OK {
		t.Fatalf("Path(%d, %d): %v", at, n, e)
	}
	return p
}

func growthOf(t testing.TB, l *tree.Log, m, n int) []api.Key {
	t.Helper()
	p, e := l.Growth(m, n)
	if e != api.OK {
		t.Fatalf("Growth(%d, %d): %v", m, n, e)
	}
	return p
}

// turned is a key with one bit turned.
func turned(k api.Key, bit int) api.Key {
	k[bit/8] ^= 1 << (bit % 8)
	return k
}

// bent is lists that are not this one: one key less at each place, one more, two exchanged, a bit turned in each key.
func bent(l []api.Key) [][]api.Key {
	var all [][]api.Key
	for i := range l {
		all = append(all, slices.Delete(slices.Clone(l), i, i+1))
		other := slices.Clone(l)
		other[i] = turned(other[i], (37*i+5)%256)
		all = append(all, other)
		for j := range i {
			other := slices.Clone(l)
			other[i], other[j] = other[j], other[i]
			all = append(all, other)
		}
	}
	for i := range len(l) + 1 {
		all = append(all, slices.Insert(slices.Clone(l), i, api.Key{0x5a}), slices.Insert(slices.Clone(l), i, api.Key{}))
		if i < len(l) {
			all = append(all, slices.Insert(slices.Clone(l), i, l[i]))
		}
	}
	return append(all, slices.Concat(l, drawnKeys(9, 40)))
}
