package tree_test

import (
	"bytes"
	"math/rand"
	"slices"
	"testing"

	"pawl/api"
	"pawl/hash"
	"pawl/tree"
)

var a, b, c, d, e = api.Key{1}, api.Key{2}, api.Key{3}, api.Key{4}, api.Key{5}

// TestLeaf and TestNode are P21.1, against Go's own hash.
func TestLeaf(t *testing.T) {
	r := rand.New(rand.NewSource(211))
	for _, n := range []int{0, 1, 2, 30, 31, 32, 33, 53, 54, 55, 56, 62, 63, 64, 65, 119, 120, 1000, 1 << 20} {
		text := make([]byte, n)
		r.Read(text)
		if got := tree.Leaf(text); got != leafOf(text) || got != hash.Sum(append([]byte{0}, text...)) {
			t.Errorf("Leaf of %d bytes: %x", n, got)
		}
		text = bytes.Repeat([]byte{1}, n)
		if got := tree.Leaf(text); got != leafOf(text) {
			t.Errorf("Leaf of %d bytes 1: %x", n, got)
		}
	}
	if tree.Leaf(nil) != tree.Leaf([]byte{}) || tree.Leaf(nil) == tree.Root(nil) {
		t.Error("Leaf of no bytes")
	}
}

func TestNode(t *testing.T) {
	keys := append(drawnKeys(212, 20), api.Key{}, a, b, api.Key{31: 1})
	for _, x := range keys {
		for _, y := range keys {
			if got := tree.Node(x, y); got != nodeOf(x, y) {
				t.Errorf("Node(%x, %x): %x", x, y, got)
			}
		}
	}
	if tree.Node(a, b) == tree.Leaf(slices.Concat(a[:], b[:])) {
		t.Error("a leaf passes for a node")
	}
}

// The leaves that RFC 6962's own programs are tested with, and the roots of the first 0, 1, 2 .. of them.
var shownLeaves = [][]byte{
	{},
	{0x00},
	{0x10},
	{0x20, 0x21},
	{0x30, 0x31},
	{0x40, 0x41, 0x42, 0x43},
	{0x50, 0x51, 0x52, 0x53, 0x54, 0x55, 0x56, 0x57},
	{0x60, 0x61, 0x62, 0x63, 0x64, 0x65, 0x66, 0x67, 0x68, 0x69, 0x6a, 0x6b, 0x6c, 0x6d, 0x6e, 0x6f},
}

var shownRoots = []string{
	"e3b0c44298fc1c149afbf4c8996fb92427ae41e4649b934ca495991b7852b855",
	"6e340b9cffb37a989ca544e6bb780a2c78901d3fb33738768511a30617afa01d",
	"fac54203e7cc696cf0dfcb42c92a1d9dbaf70ad9e621f4bd8d98662f00e3c125",
	"aeb6bcfe274b70a14fb067a5e5578264db0fa9b51af5e0ba159158f329e06e77",
	"d37ee418976dd95753c1c73862b9398fa2a2cf9b4ff0fdfe8b30cd95209614b7",
	"4e3bbb1f7b478dcfe71fb631631519a3bca12c9aefca1612bfce4c13a86264d4",
	"76e67dadbcdf1e10e1b74ddc608abd2f98dfb16fbce75277b5232a127f2087ef",
	"ddb89be403809e325750d3d263cd78929c2942b7942a34b77e122c9594a74c8c",
	"5dc9da79a70659a9ad559cb701ded9a2ab9d823aad2f4960cfe370eff4604328",
}

func shownLog(t *testing.T) *tree.Log {
	t.Helper()
	l := tree.New()
	for i, text := range shownLeaves {
		if at, e := l.Append(tree.Leaf(text)); at != i || e != api.OK {
			t.Fatalf("Append: %d, %v", at, e)
		}
	}
	return l
}

func TestRootsShown(t *testing.T) {
	l := shownLog(t)
	for n, want := range keys(t, shownRoots...) {
		if got := rootOf(t, l, n); got != want {
			t.Errorf("the first %d: %x", n, got)
		}
	}
}

func TestProofsShown(t *testing.T) {
	l := shownLog(t)
	path := keys(t,
		"bc1a0643b12e4d2d7c77918f44e0f4f79a838b6cf9ec5b5c283e1f4d88599e6b",
		"ca854ea128ed050b41b35ffc1b87b8eb2bde461e9e3b5596ece6b9d5975a0ae0",
		"d37ee418976dd95753c1c73862b9398fa2a2cf9b4ff0fdfe8b30cd95209614b7",
	)
	if got := pathOf(t, l, 5, 8); !slices.Equal(got, path) {
		t.Errorf("Path(5, 8): %x", got)
	}
	growth := keys(t, "0ebc5d3437fbe2db158b9f126a1d118e308181031d0a949f8dededebc558ef6a")
	if got := growthOf(t, l, 6, 8); !slices.Equal(got, append(growth, path[1:]...)) {
		t.Errorf("Growth(6, 8): %x", got)
	}
	growth = keys(t, "5f083f0a1a33ca076a95279832580db3e0ef4584bdff1f54c8a360f50de3031e")
	if got := growthOf(t, l, 2, 5); !slices.Equal(got, append(growth, path[0])) {
		t.Errorf("Growth(2, 5): %x", got)
	}
}

// byTheCut is P21.2 word by word.
func byTheCut(leaves []api.Key) api.Key {
	n := len(leaves)
	if n == 0 {
		return hashed()
	}
	if n == 1 {
		return leaves[0]
	}
	k := 1
	for 2*k < n {
		k *= 2
	}
	return nodeOf(byTheCut(leaves[:k]), byTheCut(leaves[k:]))
}

func TestRoot(t *testing.T) {
	n := tree.Node
	for _, x := range []struct {
		leaves []api.Key
		want   api.Key
	}{
		{nil, hash.Sum(nil)}, {[]api.Key{}, hash.Sum(nil)}, {[]api.Key{a}, a}, {[]api.Key{{}}, api.Key{}}, {[]api.Key{a, b}, n(a, b)}, {[]api.Key{b, a}, n(b, a)},
		{[]api.Key{a, b, c}, n(n(a, b), c)}, {[]api.Key{a, b, c, d}, n(n(a, b), n(c, d))}, {[]api.Key{a, b, c, d, e}, n(n(n(a, b), n(c, d)), e)},
	} {
		if got := tree.Root(x.leaves); got != x.want {
			t.Errorf("Root of %d: %x", len(x.leaves), got)
		}
	}
	leaves := drawnKeys(213, 1<<17+3)
	for n := range 300 {
		if got := tree.Root(leaves[:n]); got != levelsOf(leaves[:n]).root() || got != byTheCut(leaves[:n]) {
			t.Errorf("Root of %d: %x", n, got)
		}
	}
	// The last ones are more than a log may have.
	for _, n := range append(slices.Clone(edges), 1<<16+1, 1<<17-1, 1<<17, 1<<17+3) {
		if got := tree.Root(leaves[:n]); got != levelsOf(leaves[:n]).root() {
			t.Errorf("Root of %d: %x", n, got)
		}
	}
}

// TestRootOfAlike: leaves may be alike, and be the hash of others.
func TestRootOfAlike(t *testing.T) {
	seen := map[api.Key]int{}
	for n := range 70 {
		root := tree.Root(make([]api.Key, n))
		if root != levelsOf(make([]api.Key, n)).root() {
			t.Errorf("Root of %d zeros: %x", n, root)
		}
		if m, is := seen[root]; is {
			t.Errorf("%d and %d zeros have one root", m, n)
		}
		seen[root] = n
	}
	if tree.Root([]api.Key{tree.Node(a, b), c}) != tree.Root([]api.Key{a, b, c}) {
		t.Error("a leaf that is a node")
	}
}

// checkLog holds all that a log tells, but its proofs, against its leaves.
func checkLog(t *testing.T, l *tree.Log, leaves []api.Key) {
	t.Helper()
	if l.Len() != len(leaves) || !slices.Equal(l.Leaves(), leaves) {
		t.Fatalf("%d leaves where there must be %d, or others", l.Len(), len(leaves))
	}
	for n := range len(leaves) + 1 {
		if got := rootOf(t, l, n); got != levelsOf(leaves[:n]).root() {
			t.Fatalf("Root(%d) of %d: %x", n, len(leaves), got)
		}
	}
}

// TestLog is P21.3 and P21.4: logs that came leaf by leaf, from a list, or from a list and then leaf by leaf.
func TestLog(t *testing.T) {
	leaves := drawnKeys(214, 50)
	leaves[7], leaves[8], leaves[20] = api.Key{}, api.Key{}, leaves[3]
	for from := range leaves {
		l := logOf(t, leaves[:from])
		checkLog(t, l, leaves[:from])
		for i := from; i < len(leaves); i++ {
			if at, e := l.Append(leaves[i]); at != i || e != api.OK {
				t.Fatalf("Append of number %d: %d, %v", i, at, e)
			}
		}
		checkLog(t, l, leaves)
	}
	l := tree.New()
	checkLog(t, l, nil)
	for i, leaf := range leaves {
		if at, e := l.Append(leaf); at != i || e != api.OK {
			t.Fatalf("Append of number %d: %d, %v", i, at, e)
		}
		checkLog(t, l, leaves[:i+1])
	}
	checkLog(t, logOf(t, nil), nil)
	checkLog(t, logOf(t, []api.Key{}), nil)
}

// TestFull: MaxLeaves is allowed, one more is not, and a refusal changes nothing.
func TestFull(t *testing.T) {
	leaves := drawnKeys(215, 2*mostLeaves)
	for _, n := range []int{mostLeaves + 1, mostLeaves + 2, 2 * mostLeaves} {
		if l, e := tree.From(leaves[:n]); l != nil || e != api.ErrLong {
			t.Errorf("From of %d: %v", n, e)
		}
	}
	want := levelsOf(leaves[:mostLeaves]).root()
	short := logOf(t, leaves[:mostLeaves-1])
	if at, e := short.Append(leaves[mostLeaves-1]); at != mostLeaves-1 || e != api.OK {
		t.Errorf("the last place: %d, %v", at, e)
	}
	for _, l := range []*tree.Log{logOf(t, leaves[:mostLeaves]), short} {
		for range 3 {
			if at, e := l.Append(leaves[mostLeaves]); at != 0 || e != api.ErrLong {
				t.Errorf("Append to a full log: %d, %v", at, e)
			}
		}
		if l.Len() != mostLeaves || !slices.Equal(l.Leaves(), leaves[:mostLeaves]) || rootOf(t, l, mostLeaves) != want {
			t.Error("a full log has changed")
		}
	}
}

// TestRootOutside is the refusals of P21.4.
func TestRootOutside(t *testing.T) {
	leaves := drawnKeys(216, 9)
	for n := range 10 {
		l := logOf(t, leaves[:n])
		for _, out := range append(slices.Clone(outside), n+1, n+2, 2*n+1, mostLeaves) {
			if got, e := l.Root(out); got != (api.Key{}) || e != api.ErrLeaf {
				t.Errorf("Root(%d) of %d: %x, %v", out, n, got, e)
			}
		}
		checkLog(t, l, leaves[:n])
	}
}

// TestOnlyGrowing is P21.11.
func TestOnlyGrowing(t *testing.T) {
	type told struct {
		root          []api.Key
		paths, growth [][]api.Key
	}
	ask := func(l *tree.Log, most int) (x told) {
		for n := range most + 1 {
			x.root = append(x.root, rootOf(t, l, n))
			for at := range n {
				x.paths = append(x.paths, pathOf(t, l, at, n))
			}
			for m := range n + 1 {
				x.growth = append(x.growth, growthOf(t, l, m, n))
			}
		}
		return x
	}
	leaves := drawnKeys(217, 20)
	for n := range 18 {
		l := logOf(t, leaves[:n])
		was := ask(l, n)
		for _, leaf := range leaves[n:] {
			l.Append(leaf)
		}
		is := ask(l, n)
		if !slices.Equal(was.root, is.root) || !slices.EqualFunc(was.paths, is.paths, slices.Equal) || !slices.EqualFunc(was.growth, is.growth, slices.Equal) {
			t.Errorf("the first %d are told otherwise behind Append", n)
		}
	}
}
