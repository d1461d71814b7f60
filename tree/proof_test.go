package tree_test

import (
	"math/rand"
	"slices"
	"testing"

	"pawl/api"
	"pawl/hash"
	"pawl/tree"
)

// TestPath is P21.5: the examples, and all places of small logs.
func TestPath(t *testing.T) {
	l := logOf(t, []api.Key{a, b, c})
	for _, x := range []struct {
		at, n int
		want  []api.Key
	}{{1, 3, []api.Key{a, c}}, {0, 3, []api.Key{b, c}}, {2, 3, []api.Key{tree.Node(a, b)}}, {0, 1, nil}, {0, 2, []api.Key{b}}, {1, 2, []api.Key{a}}} {
		if got := pathOf(t, l, x.at, x.n); !slices.Equal(got, x.want) {
			t.Errorf("Path(%d, %d): %x", x.at, x.n, got)
		}
	}
	leaves := drawnKeys(220, 70)
	l = logOf(t, leaves)
	for n := 1; n <= len(leaves); n++ {
		want := levelsOf(leaves[:n])
		for at := range n {
			if got := pathOf(t, l, at, n); !slices.Equal(got, want.path(at)) {
				t.Errorf("Path(%d, %d): %x", at, n, got)
			}
		}
	}
}

// TestGrowth is P21.6: the examples, and all beginnings of small logs.
func TestGrowth(t *testing.T) {
	l := logOf(t, []api.Key{a, b, c, d, e})
	for _, x := range []struct {
		m, n int
		want []api.Key
	}{
		{2, 3, []api.Key{c}}, {1, 3, []api.Key{b, c}}, {3, 3, nil}, {0, 3, nil}, {0, 0, nil}, {0, 1, nil}, {1, 1, nil}, {5, 5, nil},
		{3, 5, []api.Key{c, d, tree.Node(a, b), e}}, {3, 4, []api.Key{c, d, tree.Node(a, b)}}, {4, 5, []api.Key{e}}, {1, 2, []api.Key{b}}, {2, 5, []api.Key{tree.Node(c, d), e}},
	} {
		if got := growthOf(t, l, x.m, x.n); !slices.Equal(got, x.want) {
			t.Errorf("Growth(%d, %d): %x", x.m, x.n, got)
		}
	}
	leaves := drawnKeys(222, 70)
	l = logOf(t, leaves)
	for n := range len(leaves) + 1 {
		want := levelsOf(leaves[:n])
		for m := range n + 1 {
			if got := growthOf(t, l, m, n); !slices.Equal(got, want.growth(m)) {
				t.Errorf("Growth(%d, %d): %x", m, n, got)
			}
		}
	}
}

// TestProofsOutside is the refusals of P21.5 and P21.6.
func TestProofsOutside(t *testing.T) {
	leaves := drawnKeys(223, 9)
	numbers := append(slices.Clone(outside), 0, 1, 2, 3, 4, 5, 6, 7, 8, 9, 10, 11, mostLeaves)
	for most := range 10 {
		l := logOf(t, leaves[:most])
		for _, n := range numbers {
			for _, m := range numbers {
				path, e := l.Path(m, n)
				if is := n >= 1 && n <= most && m >= 0 && m < n; !is && (len(path) != 0 || e != api.ErrLeaf) {
					t.Errorf("Path(%d, %d) of %d: %x, %v", m, n, most, path, e)
				}
				growth, e := l.Growth(m, n)
				if is := n <= most && m >= 0 && m <= n; !is && (len(growth) != 0 || e != api.ErrLeaf) {
					t.Errorf("Growth(%d, %d) of %d: %x, %v", m, n, most, growth, e)
				}
			}
		}
		checkLog(t, l, leaves[:most])
	}
}

// TestComplete is P21.9, of all numbers of small logs.
func TestComplete(t *testing.T) {
	leaves := drawnKeys(224, 40)
	leaves[3], leaves[11] = api.Key{}, leaves[10]
	l := logOf(t, leaves)
	for n := range len(leaves) + 1 {
		root := rootOf(t, l, n)
		for at := range n {
			if e := tree.Included(root, n, at, leaves[at], pathOf(t, l, at, n)); e != api.OK {
				t.Errorf("Included of %d among %d: %v", at, n, e)
			}
		}
		for m := range n + 1 {
			if e := tree.Grown(rootOf(t, l, m), m, root, n, growthOf(t, l, m, n)); e != api.OK {
				t.Errorf("Grown from %d to %d: %v", m, n, e)
			}
		}
	}
}

// TestGreat is P21.5, P21.6, P21.9 and P21.12 of great logs, up to MaxLeaves.
func TestGreat(t *testing.T) {
	leaves := drawnKeys(225, mostLeaves)
	l := logOf(t, leaves)
	longestPath, longestGrowth := 0, 0
	for _, n := range edges {
		want := levelsOf(leaves[:n])
		root := rootOf(t, l, n)
		for _, at := range []int{0, n / 3, n / 2, n - 1} {
			path := pathOf(t, l, at, n)
			if !slices.Equal(path, want.path(at)) || tree.Included(root, n, at, leaves[at], path) != api.OK {
				t.Errorf("Path(%d, %d): %d keys", at, n, len(path))
			}
			if tree.Included(root, n, at, leaves[at], append(path, root)) != api.ErrProof {
				t.Errorf("Included of %d among %d with a key more", at, n)
			}
			longestPath = max(longestPath, len(path))
		}
		for _, m := range []int{0, 1, n / 2, n/2 + 1, n - 1, n} {
			growth := growthOf(t, l, m, n)
			if !slices.Equal(growth, want.growth(m)) || tree.Grown(levelsOf(leaves[:m]).root(), m, root, n, growth) != api.OK {
				t.Errorf("Growth(%d, %d): %d keys", m, n, len(growth))
			}
			if tree.Grown(levelsOf(leaves[:m]).root(), m, root, n, append(growth, root)) != api.ErrProof {
				t.Errorf("Grown from %d to %d with a key more", m, n)
			}
			longestGrowth = max(longestGrowth, len(growth))
		}
	}
	if longestPath != 16 || longestGrowth != 17 {
		t.Errorf("the longest path has %d keys, the longest growth %d", longestPath, longestGrowth)
	}
}

// TestIncludedExamples and TestGrownExamples: those of the chapter, and what its words say at the ends.
func TestIncludedExamples(t *testing.T) {
	root := tree.Root([]api.Key{a, b, c})
	for i, x := range []struct {
		root  api.Key
		n, at int
		leaf  api.Key
		path  []api.Key
		want  api.Errno
	}{
		{root, 3, 1, b, []api.Key{a, c}, api.OK},
		{root, 3, 0, b, []api.Key{a, c}, api.ErrProof},
		{root, 3, 1, b, []api.Key{a}, api.ErrProof},
		{root, 3, 1, b, nil, api.ErrProof},
		{root, 3, 1, b, []api.Key{a, c, c}, api.ErrProof},
		{root, 3, 2, c, []api.Key{tree.Node(a, b)}, api.OK},
		{root, 3, 2, c, []api.Key{a, tree.Node(a, b)}, api.ErrProof},
		{root, 0, 0, b, []api.Key{a, c}, api.ErrLeaf},
		{root, 0, 0, b, nil, api.ErrLeaf},
		{hash.Sum(nil), 0, 0, hash.Sum(nil), nil, api.ErrLeaf},
		{root, 3, 3, b, []api.Key{a, c}, api.ErrLeaf},
		{root, 3, -1, b, []api.Key{a, c}, api.ErrLeaf},
		{a, 1, 0, a, nil, api.OK},
		{a, 1, 0, a, []api.Key{}, api.OK},
		{a, 1, 0, a, []api.Key{b}, api.ErrProof},
		{a, 1, 0, b, nil, api.ErrProof},
		{api.Key{}, 1, 0, api.Key{}, nil, api.OK},
		{api.Key{}, 2, 0, a, nil, api.ErrProof},
		{api.Key{}, 3, 2, a, nil, api.ErrProof},
	} {
		if got := tree.Included(x.root, x.n, x.at, x.leaf, x.path); got != x.want {
			t.Errorf("number %d: %v; want %v", i, got, x.want)
		}
	}
}

func TestGrownExamples(t *testing.T) {
	none, two, three := hash.Sum(nil), tree.Node(a, b), tree.Root([]api.Key{a, b, c})
	five := tree.Root([]api.Key{a, b, c, d, e})
	growth := []api.Key{c, d, two, e}
	for i, x := range []struct {
		old   api.Key
		m     int
		root  api.Key
		n     int
		proof []api.Key
		want  api.Errno
	}{
		{three, 3, five, 5, growth, api.OK},
		{two, 2, three, 3, []api.Key{c}, api.OK},
		{a, 1, three, 3, []api.Key{b, c}, api.OK},
		{two, 3, five, 5, growth, api.ErrProof},
		{three, 3, three, 5, growth, api.ErrProof},
		{three, 3, five, 5, growth[:3], api.ErrProof},
		{three, 3, five, 5, nil, api.ErrProof},
		{two, 2, three, 3, nil, api.ErrProof},
		{two, 2, two, 3, nil, api.ErrProof},
		{three, 2, five, 5, growth, api.ErrProof},
		{three, 4, five, 5, growth, api.ErrProof},
		{none, 0, five, 5, nil, api.OK},
		{none, 0, api.Key{}, 5, nil, api.OK},
		{none, 0, none, 5, []api.Key{}, api.OK},
		{none, 0, five, 5, []api.Key{a}, api.ErrProof},
		{none, 0, five, mostLeaves, nil, api.OK},
		{three, 0, five, 5, nil, api.ErrProof},
		{five, 0, five, 5, nil, api.ErrProof},
		{api.Key{}, 0, five, 5, nil, api.ErrProof},
		{none, 0, none, 0, nil, api.OK},
		{none, 0, none, 0, []api.Key{none}, api.ErrProof},
		{none, 0, five, 0, nil, api.ErrProof},
		{none, 0, api.Key{}, 0, nil, api.ErrProof},
		{five, 0, none, 0, nil, api.ErrProof},
		{five, 0, five, 0, nil, api.ErrProof},
		{three, 3, three, 3, nil, api.OK},
		{three, 3, three, 3, []api.Key{three}, api.ErrProof},
		{three, 3, five, 3, nil, api.ErrProof},
		{api.Key{}, 3, api.Key{}, 3, nil, api.OK},
		{a, 1, a, 1, nil, api.OK},
		{a, 1, b, 1, nil, api.ErrProof},
		{a, 1, a, 1, []api.Key{a}, api.ErrProof},
		{three, mostLeaves, three, mostLeaves, nil, api.OK},
		{three, 4, five, 3, nil, api.ErrLeaf},
		{three, -1, five, 5, growth, api.ErrLeaf},
		{three, 3, five, -1, growth, api.ErrLeaf},
		{none, 0, none, -1, nil, api.ErrLeaf},
		{none, 0, none, mostLeaves + 1, nil, api.ErrLeaf},
		{five, 1, five, 0, nil, api.ErrLeaf},
		{api.Key{}, 3, api.Key{}, 7, nil, api.ErrProof},
		{api.Key{}, 4, api.Key{}, 7, nil, api.ErrProof},
	} {
		if got := tree.Grown(x.old, x.m, x.root, x.n, x.proof); got != x.want {
			t.Errorf("number %d: %v; want %v", i, got, x.want)
		}
	}
}

// TestOutside: sizes and places that are not there are told ahead of a proof that does not hold, and whatever the proof.
func TestOutside(t *testing.T) {
	leaves := drawnKeys(226, 5)
	root := tree.Root(leaves)
	for _, out := range outside {
		for _, in := range []int{0, 1, 5, mostLeaves - 1, mostLeaves} {
			for _, proof := range [][]api.Key{nil, leaves} {
				if got := tree.Included(root, out, in, leaves[0], proof); got != api.ErrLeaf {
					t.Errorf("Included, %d among %d: %v", in, out, got)
				}
				if got := tree.Included(root, in, out, leaves[0], proof); got != api.ErrLeaf {
					t.Errorf("Included, %d among %d: %v", out, in, got)
				}
				if got := tree.Included(root, in, in, leaves[0], proof); got != api.ErrLeaf {
					t.Errorf("Included, %d among %d: %v", in, in, got)
				}
				if got := tree.Grown(root, in, root, out, proof); got != api.ErrLeaf {
					t.Errorf("Grown from %d to %d: %v", in, out, got)
				}
				if got := tree.Grown(root, out, root, in, proof); got != api.ErrLeaf {
					t.Errorf("Grown from %d to %d: %v", out, in, got)
				}
				if got := tree.Grown(root, out, root, out, proof); got != api.ErrLeaf {
					t.Errorf("Grown from %d to %d: %v", out, out, got)
				}
			}
		}
	}
}

// TestIncludedBent and TestGrownBent: proofs that hold, with one thing changed, do not.
func TestIncludedBent(t *testing.T) {
	leaves := drawnKeys(227, 17)
	l := logOf(t, leaves)
	for n := 1; n <= len(leaves); n++ {
		root := rootOf(t, l, n)
		for at := range n {
			path, leaf := pathOf(t, l, at, n), leaves[at]
			for _, other := range bent(path) {
				if got := tree.Included(root, n, at, leaf, other); got != api.ErrProof {
					t.Errorf("%d among %d with another path: %v", at, n, got)
				}
			}
			for i, other := range leaves {
				if got := tree.Included(root, n, at, other, path); i != at && got != api.ErrProof {
					t.Errorf("%d for %d among %d: %v", i, at, n, got)
				}
				want := api.ErrLeaf
				if i < n {
					want = api.ErrProof
				}
				if got := tree.Included(root, n, i, leaf, path); i != at && got != want {
					t.Errorf("%d at %d among %d: %v", at, i, n, got)
				}
				if got := tree.Included(rootOf(t, l, i), n, at, leaf, path); i != n && got != api.ErrProof {
					t.Errorf("%d among %d with the root of %d: %v", at, n, i, got)
				}
			}
			for other := range len(leaves) + 5 {
				if got, want := tree.Included(root, other, at, leaf, path), includedByWords(root, other, at, leaf, path); got != want {
					t.Errorf("%d among %d for %d: %v; want %v", at, n, other, got, want)
				}
			}
		}
	}
}

func TestGrownBent(t *testing.T) {
	leaves := drawnKeys(228, 17)
	l := logOf(t, leaves)
	for n := 1; n <= len(leaves); n++ {
		root := rootOf(t, l, n)
		for m := range n + 1 {
			proof, old := growthOf(t, l, m, n), rootOf(t, l, m)
			for _, other := range bent(proof) {
				if got := tree.Grown(old, m, root, n, other); got != api.ErrProof {
					t.Errorf("from %d to %d with another proof: %v", m, n, got)
				}
			}
			for i := range len(leaves) + 1 {
				other := rootOf(t, l, i)
				if got := tree.Grown(other, m, root, n, proof); i != m && got != api.ErrProof {
					t.Errorf("from %d to %d with the old root of %d: %v", m, n, i, got)
				}
				if got := tree.Grown(old, m, other, n, proof); i != n && m > 0 && got != api.ErrProof {
					t.Errorf("from %d to %d with the root of %d: %v", m, n, i, got)
				}
				if got, want := tree.Grown(old, i, root, n, proof), grownByWords(old, i, root, n, proof); got != want {
					t.Errorf("from %d to %d for %d: %v; want %v", m, n, i, got, want)
				}
				if got, want := tree.Grown(old, m, root, i, proof), grownByWords(old, m, root, i, proof); got != want {
					t.Errorf("from %d to %d for %d: %v; want %v", m, n, i, got, want)
				}
			}
		}
	}
}

// TestEveryBit of what is handed in counts.
func TestEveryBit(t *testing.T) {
	leaves := drawnKeys(229, 7)
	l := logOf(t, leaves)
	old, root := rootOf(t, l, 5), rootOf(t, l, 7)
	path, growth := pathOf(t, l, 4, 7), growthOf(t, l, 5, 7)
	for bit := range 256 {
		if tree.Included(turned(root, bit), 7, 4, leaves[4], path) != api.ErrProof || tree.Included(root, 7, 4, turned(leaves[4], bit), path) != api.ErrProof {
			t.Errorf("Included, bit %d", bit)
		}
		if tree.Grown(turned(old, bit), 5, root, 7, growth) != api.ErrProof || tree.Grown(old, 5, turned(root, bit), 7, growth) != api.ErrProof {
			t.Errorf("Grown, bit %d", bit)
		}
		if tree.Grown(turned(root, bit), 7, root, 7, nil) != api.ErrProof || tree.Grown(root, 7, turned(root, bit), 7, nil) != api.ErrProof {
			t.Errorf("Grown to as many, bit %d", bit)
		}
		if tree.Grown(turned(hash.Sum(nil), bit), 0, root, 7, nil) != api.ErrProof || tree.Grown(hash.Sum(nil), 0, turned(hash.Sum(nil), bit), 0, nil) != api.ErrProof {
			t.Errorf("Grown of none, bit %d", bit)
		}
		for i := range path {
			other := slices.Clone(path)
			other[i] = turned(other[i], bit)
			if tree.Included(root, 7, 4, leaves[4], other) != api.ErrProof {
				t.Errorf("Included, key %d, bit %d", i, bit)
			}
		}
		for i := range growth {
			other := slices.Clone(growth)
			other[i] = turned(other[i], bit)
			if tree.Grown(old, 5, root, 7, other) != api.ErrProof {
				t.Errorf("Grown, key %d, bit %d", i, bit)
			}
		}
	}
}

// TestDrawnPaths and TestDrawnGrowths: keys that no log gave, with the roots that they make: taken, and at no other number of keys.
func TestDrawnPaths(t *testing.T) {
	r := rand.New(rand.NewSource(230))
	for range 1000 {
		n := 1 + r.Intn(1<<(1+r.Intn(16)))
		at, leaf := r.Intn(n), drawnKey(r)
		if r.Intn(3) == 0 {
			at = n - 1 - r.Intn(min(n, 4))
		}
		taken := 0
		for count := range 19 {
			path := drawnKeys(r.Int63(), count)
			root, ok := made(n, at, leaf, path)
			want := api.ErrProof
			if ok {
				want = api.OK
				taken++
			}
			if got := tree.Included(root, n, at, leaf, path); got != want {
				t.Fatalf("%d among %d, %d keys: %v", at, n, count, got)
			}
		}
		if taken != 1 {
			t.Fatalf("%d among %d: %d lengths", at, n, taken)
		}
	}
}

func TestDrawnGrowths(t *testing.T) {
	r := rand.New(rand.NewSource(231))
	for range 1000 {
		n := 2 + r.Intn(1<<(1+r.Intn(16))-1)
		m, old := 1+r.Intn(n-1), drawnKey(r)
		if r.Intn(3) == 0 {
			m = 1 << r.Intn(16)
			n = max(n, m+1)
		}
		taken := 0
		for count := range 20 {
			proof := drawnKeys(r.Int63(), count)
			was, is, ok := makes(old, m, n, proof)
			want := api.ErrProof
			if ok {
				want = api.OK
				taken++
			}
			if got := tree.Grown(was, m, is, n, proof); got != want {
				t.Fatalf("from %d to %d, %d keys: %v", m, n, count, got)
			}
			if tree.Grown(is, m, is, n, proof) == api.OK || tree.Grown(was, m, was, n, proof) == api.OK {
				t.Fatalf("from %d to %d, %d keys: one root for both is taken", m, n, count)
			}
		}
		if taken != 1 {
			t.Fatalf("from %d to %d: %d lengths", m, n, taken)
		}
	}
}

// everyList is every list of count of the keys, in every order, each as often as may be.
func everyList(keys []api.Key, count int, take func([]api.Key)) {
	l := make([]api.Key, count)
	var fill func(i int)
	fill = func(i int) {
		if i == count {
			take(l)
			return
		}
		for _, k := range keys {
			l[i] = k
			fill(i + 1)
		}
	}
	fill(0)
}

// everyKey of the tree of leaves and of that of its first m, each once, and two that are in neither.
func everyKey(leaves []api.Key, m int) []api.Key {
	keys := []api.Key{{}, hash.Sum(nil)}
	for _, level := range slices.Concat(levelsOf(leaves), levelsOf(leaves[:m])) {
		for _, k := range level {
			if !slices.Contains(keys, k) {
				keys = append(keys, k)
			}
		}
	}
	return keys
}

// TestSoundPaths and TestSoundGrowths are P21.10, of small logs: of all that can be put together from the keys of the trees themselves, the truth alone is taken, and one proof of it.
func TestSoundPaths(t *testing.T) {
	leaves := []api.Key{a, b, c, d, e}
	for n := 1; n <= 5; n++ {
		keys, root := everyKey(leaves[:n], n), tree.Root(leaves[:n])
		for at := range n {
			taken := 0
			for count := range 4 {
				everyList(keys, count+1, func(l []api.Key) {
					leaf, path := l[0], l[1:]
					if tree.Included(root, n, at, leaf, path) != api.OK {
						return
					}
					taken++
					if leaf != leaves[at] {
						t.Errorf("another leaf at %d among %d", at, n)
					}
				})
			}
			if taken != 1 {
				t.Errorf("%d among %d: %d proofs", at, n, taken)
			}
		}
	}
}

func TestSoundGrowths(t *testing.T) {
	leaves := []api.Key{a, b, c, d, e}
	for n := range 5 {
		root := tree.Root(leaves[:n])
		for m := range n + 1 {
			keys, taken := everyKey(leaves[:n], m), 0
			for count := range 4 {
				everyList(keys, count+1, func(l []api.Key) {
					old, proof := l[0], l[1:]
					if tree.Grown(old, m, root, n, proof) != api.OK {
						return
					}
					taken++
					if old != tree.Root(leaves[:m]) {
						t.Errorf("another old root from %d to %d", m, n)
					}
				})
			}
			if taken != 1 {
				t.Errorf("from %d to %d: %d proofs", m, n, taken)
			}
		}
	}
}
